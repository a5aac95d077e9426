package wal

import (
	"bytes"
	"crypto/sha256"
	"encoding/binary"
	"encoding/hex"
	"testing"

	"chirograph/api"
	"chirograph/disk"
)

// The chapter's examples: Put of 52 bytes: one sector; of 53: two.
func TestExamples(t *testing.T) {
	for size, sectors := range map[int]int{52: 1, 53: 2} {
		l, d := fresh(t, 4)
		put(t, l, filled('x', size), api.OK)
		stands(t, l, 1, sectors)
		dirty(t, d, []int{0, 1}[:sectors]...)
	}
}

func known(t *testing.T, text string) []byte {
	t.Helper()
	b, err := hex.DecodeString(text)
	if err != nil {
		t.Fatal(err)
	}
	return b
}

// Chapter 17, promise 17.2: a record's bytes, as another program (in Python, with its own SHA-256) made them; and 17.1: they are read.
func TestBytesOfAnotherProgram(t *testing.T) {
	upTo := func(n byte) (b []byte) {
		for v := range n {
			b = append(b, 1+v)
		}
		return b
	}
	for _, k := range []struct {
		number int
		b      []byte
		text   string
	}{
		{0, []byte("a"), "0000000172842a0620cb5aa861"},
		{1, []byte("abc"), "00000003b7c44433d3ede5ae616263"},
		{2, make([]byte, 3), "000000035eb2edc1c42b3fcc000000"},
		{3, []byte("RECO"), "000000040c3cc6ff9e27ef625245434f"},
		{0, upTo(52), "00000034743105a818ef1a55" + hex.EncodeToString(upTo(52))},
		{1, upTo(53), "00000035ebd6a6b0ea9f817c" + hex.EncodeToString(upTo(53))},
	} {
		l, d := fresh(t, 8)
		var want []byte
		for number := range k.number {
			put(t, l, []byte{byte(number)}, api.OK)
			want = append(want, plainSectors(number, []byte{byte(number)})...)
		}
		put(t, l, k.b, api.OK)
		want = append(want, known(t, k.text)...)
		is(t, d, want)
		records := [][]byte{{0}, {1}, {2}}[:k.number]
		opens(t, k.text, 8, want, append(records, k.b)...)
	}
}

// The same, of whole disks, told by the SHA-256 of all sectors that are used: records of many lengths, and as many records as there may be.
func TestDisksOfAnotherProgram(t *testing.T) {
	digestOf := func(d *disk.Disk, used int) string {
		sum := sha256.Sum256(imageOf(d)[:64*used])
		return hex.EncodeToString(sum[:])
	}
	l, d := fresh(t, 4096)
	lengths := []int{1, 2, 51, 52, 53, 54, 115, 116, 117, 180, 181, 255, 256, 257, 1000, 4096, 19955, 19956, 19957, 19999, 20000}
	used := map[int]int{6: 10, 13: 37, 20: 1681}
	digests := map[int]string{
		6:  "e77c462ce40e99e1c3e658e4e06caae9e132974962fa45f0953fdb931c92dd1b",
		13: "deaa46916f8cd8551284c940f90fc4c6f022b211150c22b81f2cb2eea7e44d33",
		20: "8616e9b2c91ba71af5a3235d38652638874f1c0a53396bc2fae5854e85bdb6c5",
	}
	for number, size := range lengths {
		b := make([]byte, size)
		for n := range b {
			b[n] = byte(7*number + 11*n + n/256)
		}
		put(t, l, b, api.OK)
		if digest, asked := digests[number]; asked {
			stands(t, l, number+1, used[number])
			if got := digestOf(d, used[number]); got != digest {
				t.Errorf("%d records: %s, want %s", number+1, got, digest)
			}
		}
	}
	l, d = fresh(t, 4096)
	for number := range uint32(4096) {
		put(t, l, binary.BigEndian.AppendUint32(nil, number*2654435761), api.OK)
	}
	stands(t, l, 4096, 4096)
	if got := digestOf(d, 4096); got != "323bf00be76f685e39f6846e9d44cd7fc7936d0e022b336fea3c7b80445558a6" {
		t.Errorf("4,096 records: %s", got)
	}
}

// Promise 17.2: a record of each length up to some sectors, and at the edges further on, behind another one: whole sectors, with noughts to the end; nothing else is written, nothing is synced. Promise 17.1: behind a Sync it is read.
func TestPutOfEachLength(t *testing.T) {
	lengths := []int{4083, 4084, 4085, 19955, 19956, 19957, 19999, 20000}
	for size := 1; size <= 600; size++ {
		lengths = append(lengths, size)
	}
	first := []byte("first")
	for _, size := range lengths {
		l, d := fresh(t, 320)
		put(t, l, first, api.OK)
		l.Sync()
		b := recordOf(1, size)
		put(t, l, b, api.OK)
		want := standing(first, b)
		stands(t, l, 2, len(want)/64)
		is(t, d, want)
		var since []int
		for at := 1; at < len(want)/64; at++ {
			since = append(since, at)
		}
		dirty(t, d, since...)
		d.Crash(nil, -1, 0)
		is(t, d, standing(first))
		opens(t, size, 320, want, first, b)
	}
}

// Promise 17.2: noughts stand behind a record to its sector's end, and other sectors stay, whatever was written there behind the log's back.
func TestPutOverOthers(t *testing.T) {
	for size := 1; size <= 130; size++ {
		l, d := fresh(t, 6)
		lay(t, d, 0, filled('z', 6*64))
		b := recordOf(0, size)
		put(t, l, b, api.OK)
		want := standing(b)
		is(t, d, append(want, filled('z', 6*64-len(want))...))
	}
}

// Promise 17.2: ErrArg of other lengths, wherever the log stands (also of a full one: it is named first); and nothing has changed.
func TestPutOfOtherLengths(t *testing.T) {
	for _, ahead := range []int{0, 1, 3, 4} {
		x := pairOf(t, "fresh", diskOf(t, 4, nil))
		for number := range ahead {
			x.put(t, []byte{byte(number)})
			if number == 1 {
				x.sync()
			}
		}
		put(t, x.l, nil, api.ErrArg)
		for _, size := range otherLengths {
			put(t, x.l, filled(1, size), api.ErrArg)
			x.same(t, size)
		}
		x.put(t, []byte("behind them"))
		x.same(t, "behind them")
	}
}

// Promise 17.2: ErrFull just if there are not so many sectors left, of each number that are left; nothing has changed then, and what fits is put.
func TestPutWithNoRoom(t *testing.T) {
	for sectors := range 8 {
		for ahead := range sectors + 1 {
			for need := 1; need <= 8; need++ {
				for _, size := range []int{64*need - 75, 64*need - 12} {
					x := pairOf(t, "fresh", diskOf(t, sectors, nil))
					for number := range ahead {
						x.put(t, []byte{byte(number)})
					}
					want := api.OK
					if need > sectors-ahead {
						want = api.ErrFull
					}
					b := recordOf(9, max(size, 1))
					put(t, x.l, b, want)
					x.p.put(b)
					x.same(t, size)
					if ahead < sectors && want != api.OK {
						put(t, x.l, b[:1], api.OK)
						x.p.put(b[:1])
						x.same(t, "one that fits")
					}
				}
			}
		}
	}
}

// Promise 17.2: the greatest disk has room for 13 records of the greatest length (313 sectors each), and for one of 27 sectors.
func TestPutUpToTheEnd(t *testing.T) {
	x := pairOf(t, "fresh", diskOf(t, 4096, nil))
	for number := range 13 {
		put(t, x.l, recordOf(number, 20000), api.OK)
		x.p.put(recordOf(number, 20000))
	}
	stands(t, x.l, 13, 13*313)
	for _, size := range []int{20000, 27*64 - 12 + 1} {
		put(t, x.l, filled('x', size), api.ErrFull)
	}
	last := recordOf(13, 27*64-12)
	put(t, x.l, last, api.OK)
	x.p.put(last)
	x.same(t, "full")
	stands(t, x.l, 14, 4096)
	for _, size := range []int{1, 52, 53, 20000} {
		put(t, x.l, filled('x', size), api.ErrFull)
	}
	put(t, x.l, nil, api.ErrArg)
	x.same(t, "full")
	x.sync()
	x.crash(t, nil, -1, 0)
}

// Promises 17.1 and 17.2: records of all lengths up to 1,000, and of all further on that fill their last sector, but for a byte, or begin it, take so many sectors, and are read.
func TestManyLengths(t *testing.T) {
	l, d := fresh(t, 4096)
	var all [][]byte
	used := 0
	for size := 1; size <= 20000; size++ {
		if end := (12 + size) % 64; size > 1000 && end != 63 && end != 0 && end != 1 {
			continue
		}
		b := recordOf(size, size)
		sectors := (12 + size + 63) / 64
		if used+sectors > 4096 {
			put(t, l, b, api.ErrFull)
			_, records := open(t, d)
			alike(t, size, records, all...)
			l, d = fresh(t, 4096)
			all, used = nil, 0
		}
		put(t, l, b, api.OK)
		all = append(all, b)
		used += sectors
		stands(t, l, len(all), used)
	}
	_, records := open(t, d)
	alike(t, "the last ones", records, all...)
}

// Promise 17.2: Sync is the disk's: all that was written is synced, also what the log did not write.
func TestSync(t *testing.T) {
	l, d := fresh(t, 8)
	for number, size := range []int{10, 60, 200} {
		put(t, l, recordOf(number, size), api.OK)
	}
	lay(t, d, 7, []byte("another's"))
	dirty(t, d, 0, 1, 2, 3, 4, 5, 6, 7)
	image := imageOf(d)
	for range 2 {
		l.Sync()
		dirty(t, d)
		stands(t, l, 3, 7)
		is(t, d, image)
		d.Crash(nil, 0, 0)
		is(t, d, image)
	}
}

// Of a nil Log: ErrArg, 0; as of one that Open did not make.
func TestNoLog(t *testing.T) {
	for what, l := range map[string]*Log{"nil": nil, "zero": {}} {
		for range 2 {
			for _, b := range [][]byte{nil, {}, {1}, filled('x', 52), filled('x', 20000), filled('x', 20001)} {
				if e := l.Put(b); e != api.ErrArg {
					t.Errorf("%s: Put of %d bytes: error %d", what, len(b), e)
				}
			}
			l.Sync()
			if a, b := l.Len(), l.Used(); a != 0 || b != 0 {
				t.Errorf("%s: %d records, %d sectors", what, a, b)
			}
		}
	}
}

// Rule 2 of the document: what is put is not changed and not kept.
func TestPutSharesNothing(t *testing.T) {
	l, d := fresh(t, 8)
	b := recordOf(3, 200)
	put(t, l, b[:100], api.OK)
	if !bytes.Equal(b, recordOf(3, 200)) {
		t.Errorf("the bytes are %x now", b)
	}
	clear(b)
	put(t, l, recordOf(4, 9), api.OK)
	is(t, d, standing(recordOf(3, 100), recordOf(4, 9)))
}

// Rule 2 of the document: logs of two disks have nothing in common.
func TestLogsStandApart(t *testing.T) {
	a, b := pairOf(t, "a", diskOf(t, 5, nil)), pairOf(t, "b", diskOf(t, 5, nil))
	a.put(t, recordOf(1, 70))
	b.put(t, recordOf(2, 5))
	a.sync()
	b.put(t, recordOf(3, 150))
	a.same(t, "a")
	b.same(t, "b")
	a.crash(t, nil, -1, 0)
	b.crash(t, nil, -1, 0)
}
