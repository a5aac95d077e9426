package wal

import (
	"bytes"
	"crypto/sha256"
	"encoding/binary"
	"math/rand"
	"slices"
	"testing"

	"chirograph/api"
	"chirograph/disk"
)

// Promise 17.1: ErrArg of no disk, beside no log and no records.
func TestOpenOfNoDisk(t *testing.T) {
	if l, records, e := Open(nil); e != api.ErrArg || l != nil || len(records) != 0 {
		t.Errorf("error %d, %v, %d records", e, l != nil, len(records))
	}
}

// Promise 17.1: a disk without sectors has no records and no room; so has one that disk.New did not make.
func TestOpenOfNoSectors(t *testing.T) {
	for _, d := range []*disk.Disk{diskOf(t, 0, nil), {}} {
		l, records := open(t, d)
		alike(t, "no sectors", records)
		put(t, l, []byte{1}, api.ErrFull)
		put(t, l, nil, api.ErrArg)
		l.Sync()
		stands(t, l, 0, 0)
	}
}

// Promise 17.1: noughts are no records, on disks of all sizes.
func TestOpenOfNoughts(t *testing.T) {
	for _, sectors := range []int{1, 2, 3, 64, 313, 314, 4095, 4096} {
		opens(t, sectors, sectors, nil)
	}
}

// Promises 17.1, 17.2: what was put is told again, in its order, by each opening; and the log goes on behind it.
func TestOpenAgain(t *testing.T) {
	lengths := []int{1, 52, 53, 300, 20000, 2, 116, 117, 1}
	d := diskOf(t, 400, nil)
	x := pairOf(t, "fresh", d)
	var all [][]byte
	for number, size := range lengths {
		b := recordOf(number, size)
		put(t, x.l, b, api.OK)
		all = append(all, b)
		for range 2 {
			l, records := open(t, d)
			alike(t, number, records, all...)
			stands(t, l, len(all), len(standing(all...))/64)
			is(t, d, standing(all...))
			dirty(t, d)
			x.l = l
		}
	}
}

// Promise 17.1: what is written is read, be it synced or not, and all of the disk is synced then.
func TestOpenSyncs(t *testing.T) {
	a, b := recordOf(0, 100), recordOf(1, 10)
	l, d := fresh(t, 6)
	put(t, l, a, api.OK)
	l.Sync()
	put(t, l, b, api.OK)
	lay(t, d, 5, []byte("another's"))
	dirty(t, d, 2, 5)
	for range 2 {
		again, records := open(t, d)
		alike(t, "opened", records, a, b)
		stands(t, again, 2, 3)
		is(t, d, standing(a, b))
		dirty(t, d)
		d.Crash(nil, 5, 64)
		is(t, d, standing(a, b))
	}
}

// Promise 17.1: each byte of a log, turned to each other value: the records ahead of it are there, and the others not, but behind a record's bytes in its last sector, where it does not count and stays.
func TestOpenOfTurnedBytes(t *testing.T) {
	records := [][]byte{recordOf(0, 1), recordOf(1, 52), recordOf(2, 53), make([]byte, 30), recordOf(4, 150)}
	image := standing(records...)
	at := 0
	for number, b := range records {
		for m := range len(plainSectors(number, b)) {
			for v := 1; v < 256; v++ {
				image[at+m] ^= byte(v)
				if m < 12+len(b) {
					opens(t, []int{at + m, v}, 10, image, records[:number]...)
				} else {
					d := diskOf(t, 10, image)
					_, got := open(t, d)
					alike(t, []int{at + m, v}, got, records...)
					is(t, d, image)
				}
				image[at+m] ^= byte(v)
			}
		}
		at += len(plainSectors(number, b))
	}
}

// Promise 17.1: what stands behind a record's bytes in its last sector does not count, of each length; it stays, and records are put behind it.
func TestOpenWithMoreBehindTheBytes(t *testing.T) {
	for size := 1; size <= 200; size++ {
		a, b := recordOf(0, size), []byte("behind")
		image := plainSectors(0, a)
		copy(image[12+size:], filled('z', 64))
		d := diskOf(t, 6, append(bytes.Clone(image), filled('z', 64)...))
		l, records := open(t, d)
		alike(t, size, records, a)
		stands(t, l, 1, len(image)/64)
		is(t, d, image)
		dirty(t, d)
		put(t, l, b, api.OK)
		is(t, d, append(image, plainSectors(1, b)...))
		_, records = open(t, d)
		alike(t, size, records, a, b)
	}
}

// Promise 17.1: a record must be whole: of each log that ends within its sectors, at each sector and on a disk that ends there.
func TestOpenOfCutLogs(t *testing.T) {
	records := [][]byte{recordOf(0, 53), recordOf(1, 1), recordOf(2, 181), recordOf(3, 20000), recordOf(4, 52)}
	ends := []int{2, 3, 7, 320, 321}
	image := standing(records...)
	if len(image) != 64*321 {
		t.Fatal(len(image))
	}
	for sectors := range 322 {
		whole := 0
		for whole < len(ends) && ends[whole] <= sectors {
			whole++
		}
		opens(t, sectors, sectors, image[:64*sectors], records[:whole]...)
		opens(t, sectors, 330, image[:64*sectors], records[:whole]...)
	}
}

// head is what stands ahead of a record's bytes: a length, and eight bytes of the digest of these.
func head(size uint32, text ...[]byte) []byte {
	sum := sha256.Sum256(slices.Concat(text...))
	return append(binary.BigEndian.AppendUint32(nil, size), sum[:8]...)
}

// Promise 17.1: lengths from 1 to 20,000, of records that are right but for that.
func TestOpenOfOtherLengths(t *testing.T) {
	number := make([]byte, 4)
	for _, size := range append([]int{1, 2, 19999, 20000, 20031, 20033}, otherLengths...) {
		if size > 4000*64 {
			continue // of which there is no room
		}
		b := recordOf(0, size)
		image := append(head(uint32(size), []byte("RECO"), number, b), b...)
		var want [][]byte
		if size >= 1 && size <= 20000 {
			want = [][]byte{b}
		}
		opens(t, size, 4096, image, want...)
	}
}

// Promise 17.1: the length is all of its four bytes, also where fewer of them, or as a number that has a sign, would be right.
func TestOpenOfLengthsThatWrapRound(t *testing.T) {
	number := make([]byte, 4)
	for size := range uint32(5) {
		b := recordOf(0, int(size))
		for _, more := range []uint32{1 << 8, 1 << 15, 1 << 16, 1 << 24, 1 << 31, 1<<32 - 1<<16, 1<<32 - 1<<8} {
			for _, sectors := range []int{1, 2, 400, 4096} {
				image := append(head(size|more, []byte("RECO"), number, b), b...)
				opens(t, []uint32{size, more}, sectors, image)
			}
		}
	}
	for _, size := range []uint32{1<<32 - 1, 1<<32 - 11, 1<<32 - 12, 1<<32 - 13, 1<<32 - 64, 1<<32 - 75, 1<<32 - 76, 1 << 31, 1<<31 - 1, 1<<31 - 12} {
		for _, sectors := range []int{1, 3, 4096} {
			opens(t, size, sectors, append(head(size, []byte("RECO"), number), filled(1, 50)...))
		}
	}
}

// Promise 17.1: a length that is not that of the bytes in the digest, though both are whole.
func TestOpenOfAnotherLength(t *testing.T) {
	b := recordOf(0, 100)
	for size := 1; size <= 200; size++ {
		image := plainSectors(0, b)
		copy(image, binary.BigEndian.AppendUint32(nil, uint32(size)))
		var want [][]byte
		if size == 100 {
			want = [][]byte{b}
		}
		opens(t, size, 10, image, want...)
	}
	// Noughts behind the bytes are no bytes of it, nor are the last ones of it noughts.
	b = append(recordOf(0, 10), 0, 0)
	for _, size := range []uint32{10, 11, 13, 20} {
		image := plainSectors(0, b)
		copy(image, binary.BigEndian.AppendUint32(nil, size))
		opens(t, size, 10, image)
	}
}

// Promise 17.1: the digest is of just "RECO", the number in four bytes, and the record's bytes; of it the first eight are there.
func TestOpenOfOtherDigests(t *testing.T) {
	a, b := recordOf(0, 20), recordOf(1, 80)
	size := binary.BigEndian.AppendUint32(nil, 80)
	sum := sha256.Sum256(slices.Concat([]byte("RECO\x00\x00\x00\x01"), b))
	other := func(text ...[]byte) []byte { return head(80, text...)[4:] }
	for what, digest := range map[string][]byte{
		"right":               sum[:8],
		"the last eight":      sum[24:],
		"the second eight":    sum[8:16],
		"turned round":        {sum[7], sum[6], sum[5], sum[4], sum[3], sum[2], sum[1], sum[0]},
		"none":                make([]byte, 8),
		"without a mark":      other([]byte{0, 0, 0, 1}, b),
		"a small mark":        other([]byte("reco\x00\x00\x00\x01"), b),
		"another mark":        other([]byte("NEXT\x00\x00\x00\x01"), b),
		"a longer mark":       other([]byte("RECOR\x00\x00\x00\x01"), b),
		"without a number":    other([]byte("RECO"), b),
		"number 0":            other([]byte("RECO\x00\x00\x00\x00"), b),
		"number 2":            other([]byte("RECO\x00\x00\x00\x02"), b),
		"another byte order":  other([]byte("RECO\x01\x00\x00\x00"), b),
		"a number more":       other([]byte("RECO\x01\x00\x00\x01"), b),
		"two bytes of number": other([]byte("RECO\x00\x01"), b),
		"eight of number":     other([]byte("RECO\x00\x00\x00\x00\x00\x00\x00\x01"), b),
		"the length, too":     other([]byte("RECO\x00\x00\x00\x01"), size, b),
		"the length ahead":    other(size, []byte("RECO\x00\x00\x00\x01"), b),
		"not the last byte":   other([]byte("RECO\x00\x00\x00\x01"), b[:79]),
		"a nought more":       other([]byte("RECO\x00\x00\x00\x01"), b, []byte{0}),
		"up to the end":       other([]byte("RECO\x00\x00\x00\x01"), b, make([]byte, 36)),
		"the bytes alone":     other(b),
		"nothing":             other(),
		"the record ahead":    other(a, []byte("RECO\x00\x00\x00\x01"), b),
	} {
		image := slices.Concat(standing(a), size, digest, b)
		want := [][]byte{a}
		if what == "right" {
			want = append(want, b)
		}
		opens(t, what, 8, image, want...)
	}
}

// Promise 17.1: each record has its number at its place: none stands in for another one.
func TestOpenOfOtherNumbers(t *testing.T) {
	b := recordOf(0, 10)
	for _, number := range []int{1, 2, 255, 256, 1 << 16, 1 << 24, 1<<31 + 1, 1<<32 - 1} {
		opens(t, number, 4, plainSectors(number, b))
		opens(t, number, 4, slices.Concat(plainSectors(0, b), plainSectors(1, b), plainSectors(number+2, b)), b, b)
	}
	opens(t, "twice", 4, slices.Concat(plainSectors(0, b), plainSectors(0, b)), b)
	opens(t, "left out", 4, slices.Concat(plainSectors(0, b), plainSectors(2, b)), b)
	opens(t, "the other way round", 4, slices.Concat(plainSectors(1, b), plainSectors(0, b)))
	opens(t, "alike", 4, slices.Concat(plainSectors(0, b), plainSectors(1, b), plainSectors(2, b)), b, b, b)
}

// Promise 17.1: numbers go on beyond a byte, to the greatest disk's end.
func TestOpenOfManyRecords(t *testing.T) {
	var all [][]byte
	for number := range 4096 {
		all = append(all, []byte{byte(number), byte(number >> 8)})
	}
	image := standing(all...)
	for _, many := range []int{0, 1, 255, 256, 257, 4095, 4096} {
		opens(t, many, 4096, image[:64*many], all[:many]...)
		opens(t, many, many, image[:64*many], all[:many]...)
	}
}

// Promise 17.1: what stands behind what is no record is none, though it is right by itself, and is gone.
func TestOpenStops(t *testing.T) {
	a, b, c := recordOf(0, 10), recordOf(1, 60), recordOf(2, 5)
	gap := make([]byte, 64)
	opens(t, "behind noughts", 8, slices.Concat(gap, standing(a, b)))
	opens(t, "behind one", 8, slices.Concat(plainSectors(0, a), gap, plainSectors(1, b), plainSectors(2, c)), a)
	opens(t, "behind two", 8, slices.Concat(standing(a, b), gap, plainSectors(2, c)), a, b)
	wrong := plainSectors(1, b)
	wrong[127]++
	opens(t, "turned behind its bytes", 8, slices.Concat(plainSectors(0, a), wrong, plainSectors(2, c)), a, b, c)
	wrong[71]++
	opens(t, "behind a wrong one", 8, slices.Concat(plainSectors(0, a), wrong, plainSectors(1, b), plainSectors(2, c)), a)
	opens(t, "a sector lost", 8, slices.Concat(plainSectors(0, a), wrong[:64], plainSectors(1, b), plainSectors(2, c)), a)
	opens(t, "not at a sector's beginning", 8, slices.Concat(make([]byte, 4), standing(a)))
	opens(t, "one behind the other in a sector", 8, slices.Concat(plainText(0, a), plainText(1, c)), a)
}

// Promise 17.1: records that are wrapped in records are bytes as others.
func TestOpenOfWrappedRecords(t *testing.T) {
	inner := recordOf(9, 20)
	for number := range 4 {
		for _, ahead := range []int{0, 52, 52 + 64} { // so that the inner one begins a sector
			outer := append(filled('o', ahead), plainSectors(number, inner)...)
			opens(t, number, 10, standing(outer), outer)
			last := []byte("last")
			opens(t, number, 10, standing(outer, last), outer, last)
			image := standing(outer, last)
			image[20]++ // now the outer one is wrong, and the inner one right by itself
			if ahead > 0 {
				opens(t, number, 10, image)
			}
		}
	}
}

// Promise 17.1: of the sectors behind the records none stays that is not noughts, of which one byte is enough, at each place; all is synced.
func TestOpenWipes(t *testing.T) {
	for ahead := range 3 {
		records := [][]byte{recordOf(0, 100), recordOf(1, 3)}[:ahead]
		image := standing(records...)
		for m := len(image); m < 6*64; m++ {
			for _, v := range []byte{1, 128, 255} {
				d := diskOf(t, 6, image)
				sector := make([]byte, 64)
				sector[m%64] = v
				lay(t, d, m/64, sector)
				if m%2 == 0 {
					d.Sync()
				}
				l, got := open(t, d)
				alike(t, m, got, records...)
				is(t, d, image)
				dirty(t, d)
				d.Crash(nil, m/64, 0)
				is(t, d, image)
				stands(t, l, ahead, len(image)/64)
			}
		}
	}
}

// Promise 17.1: the same of sectors that are full of one value, of each value.
func TestOpenWipesEachValue(t *testing.T) {
	a := recordOf(0, 52)
	for v := 1; v < 256; v++ {
		opens(t, v, 4, append(standing(a), filled(byte(v), 128)...), a)
		opens(t, v, 4, filled(byte(v), 256))
	}
}

// Promise 17.1: the same of all sectors of the greatest disk, without a record and with some.
func TestOpenWipesAll(t *testing.T) {
	full := make([]byte, 64*4096)
	for m := range full {
		full[m] = byte(1 + m%254)
	}
	for _, records := range [][][]byte{nil, {recordOf(0, 20000)}, {recordOf(0, 1), recordOf(1, 20000), recordOf(2, 53)}} {
		image := bytes.Clone(full)
		begin := standing(records...)
		copy(image, begin)
		if len(begin) > 0 {
			copy(image[len(begin):], make([]byte, 64)) // noughts first, and more behind them
		}
		_, d := opens(t, len(records), 4096, image, records...)
		d.Crash(nil, 4095, 64)
		is(t, d, begin)
	}
}

// Rule 2 of the document: records that are told are the caller's own, each by itself.
func TestOpenSharesNothing(t *testing.T) {
	a, b := recordOf(0, 60), recordOf(1, 10)
	d := diskOf(t, 4, standing(a, b))
	l, one := open(t, d)
	_, other := open(t, d)
	_ = append(one[0], filled('x', 200)...)
	_ = append(one[1], filled('x', 200)...)
	alike(t, "appended", one, a, b)
	clear(one[0][:cap(one[0])])
	alike(t, "one cleared", one[1:], b)
	clear(one[1][:cap(one[1])])
	clear(one[:cap(one)])
	alike(t, "the other", other, a, b)
	is(t, d, standing(a, b))
	stands(t, l, 2, 3)
	_, again := open(t, d)
	alike(t, "again", again, a, b)
}

// Rules 1 and 3 of the document, promise 17.1: disks of any bytes, of right records and parts of them one behind the other, as the plain one; and twice the same.
func TestOpenOfAnything(t *testing.T) {
	chance := rand.New(rand.NewSource(17))
	for range 4000 {
		sectors := chance.Intn(12)
		var image []byte
		for number := 0; len(image) < 64*sectors; number++ {
			var part []byte
			switch chance.Intn(12) {
			case 0:
				part = randomBytes(chance, 64)
			case 1:
				part = make([]byte, 64)
			case 2:
				part = plainSectors(chance.Intn(4), randomBytes(chance, 1+chance.Intn(150)))
			case 3:
				part = plainSectors(number, randomBytes(chance, 1+chance.Intn(150)))
				part[chance.Intn(len(part))] ^= 1 << chance.Intn(8)
			case 4:
				part = plainSectors(number, randomBytes(chance, 1+chance.Intn(150)))
				part = part[:64*(1+chance.Intn(len(part)/64))]
			default:
				part = plainSectors(number, randomBytes(chance, 1+chance.Intn(150)))
			}
			image = append(image, part...)
		}
		image = image[:64*sectors]
		x, twin := pairOf(t, "anything", diskOf(t, sectors, image)), pairOf(t, "twin", diskOf(t, sectors, image))
		b := recordOf(50, 1+chance.Intn(100))
		if x.put(t, b) != twin.put(t, b) {
			t.Fatal("twins are unlike")
		}
		x.same(t, "put")
		twin.same(t, "put")
	}
}
