package wal

import (
	"bytes"
	"encoding/binary"
	"math/rand"
	"slices"
	"testing"

	"chirograph/api"
)

// beginning tells whether the records are a beginning of those that were put, with at least so many that were synced.
func beginning(t *testing.T, what any, got, all [][]byte, synced int) {
	t.Helper()
	if len(got) < synced || len(got) > len(all) {
		t.Fatalf("%v: %d records, of %d that were put, %d that were synced", what, len(got), len(all), synced)
	}
	alike(t, what, got, all[:len(got)]...)
}

// Promise 17.3, of three records behind one that was synced: whichever of their six sectors are kept, whichever is torn, and where; then again, of others that are put behind what is left.
func TestCrashEveryWay(t *testing.T) {
	all := [][]byte{recordOf(0, 52), recordOf(1, 116), recordOf(2, 52), recordOf(3, 180)} // they fill their sectors
	ends := []int{1, 3, 4, 7}
	others := [][]byte{recordOf(20, 5), recordOf(21, 110), recordOf(22, 50), recordOf(23, 1)}
	for kept := range 64 {
		var keep []int
		for _, n := range chosen(kept) {
			keep = append(keep, 1+n)
		}
		for torn := range 8 {
			for _, n := range []int{0, 4, 12, 33, 64} {
				what := []any{keep, torn, n}
				x := pairOf(t, what, diskOf(t, 9, nil))
				x.put(t, all[0])
				x.sync()
				for _, b := range all[1:] {
					x.put(t, b)
				}
				x = x.crash(t, keep, torn, n)
				// A record is left, if all of its sectors are, and those of the ones ahead.
				left := 1
				for at := 1; at < 7 && (slices.Contains(keep, at) || at == torn && n == 64); at++ {
					if at+1 == ends[left] {
						left++
					}
				}
				_, got := open(t, x.d)
				alike(t, what, got, all[:left]...)
				behind := slices.Clone(all[:left])
				for _, b := range others {
					if x.put(t, b) == api.OK {
						behind = append(behind, b)
					}
				}
				x = x.crash(t, x.d.Dirty(), -1, 0)
				_, got = open(t, x.d)
				alike(t, what, got, behind...)
			}
		}
	}
}

// Promise 17.3: a record of which a sector is torn is there just if none of its bytes is lost; of each length, each sector, each n.
func TestCrashTornAnywhere(t *testing.T) {
	first := []byte("first")
	for _, size := range []int{1, 20, 51, 52, 53, 115, 116, 117, 150} {
		for _, noughts := range []int{0, 1, size - 1, size} {
			b := append(filled('x', size-noughts), make([]byte, noughts)...)
			text := plainText(1, b)
			needed := len(bytes.TrimRight(text, "\x00"))
			sectors := len(plainSectors(1, b)) / 64
			for torn := range sectors {
				for n := range 65 {
					x := pairOf(t, "fresh", diskOf(t, 5, nil))
					x.put(t, first)
					x.sync()
					x.put(t, b)
					keep := slices.DeleteFunc(x.d.Dirty(), func(at int) bool { return at == 1+torn })
					x = x.crash(t, keep, 1+torn, n)
					want := [][]byte{first}
					if min(needed-64*torn, 64) <= n {
						want = append(want, b)
					}
					_, got := open(t, x.d)
					alike(t, []int{size, noughts, torn, n}, got, want...)
				}
			}
		}
	}
}

// Promise 17.3: what was synced is there, however much is put behind it and lost, and is told by each opening.
func TestWhatWasSyncedStays(t *testing.T) {
	var all [][]byte
	x := pairOf(t, "fresh", diskOf(t, 60, nil))
	for round := range 12 {
		b := recordOf(round, 20*round+1)
		x.put(t, b)
		x.sync()
		all = append(all, b)
		for number := range round % 4 {
			x.put(t, recordOf(30+number, 40*number+30))
		}
		x = x.crash(t, nil, -1, 0)
		_, got := open(t, x.d)
		alike(t, round, got, all...)
	}
}

// Promise 17.3: a record that was lost, and others behind it that were kept: they don't come back, when one stands in its place that is as long.
func TestNothingComesBackBehindAnother(t *testing.T) {
	for _, size := range []int{10, 52, 60, 200} {
		a, lost, behind, other := recordOf(0, 5), recordOf(1, size), recordOf(2, 30), recordOf(11, size)
		sectors := len(plainSectors(1, lost)) / 64
		for torn := range sectors {
			x := pairOf(t, "fresh", diskOf(t, 10, nil))
			x.put(t, a)
			x.sync()
			x.put(t, lost)
			x.put(t, behind)
			x = x.crash(t, slices.DeleteFunc(x.d.Dirty(), func(at int) bool { return at == 1+torn }), 1+torn, 3)
			stands(t, x.l, 1, 1)
			x.put(t, other)
			x = x.crash(t, x.d.Dirty(), -1, 0)
			_, got := open(t, x.d)
			alike(t, "crashed", got, a, other)
		}
	}
}

// Promise 17.3: what Open wrote with noughts is gone for good, though the disk crashes right behind it, and others are put, and kept, at its side.
func TestNothingComesBackBehindTwoCrashes(t *testing.T) {
	a, lost, behind, other := recordOf(0, 5), recordOf(1, 10), recordOf(2, 30), recordOf(11, 10)
	x := pairOf(t, "fresh", diskOf(t, 10, nil))
	x.put(t, a)
	x.sync()
	x.put(t, lost)
	x.put(t, behind)
	x.d.Crash([]int{2}, -1, 0)
	l, got := open(t, x.d)
	alike(t, "opened", got, a)
	x.d.Crash(nil, -1, 0)
	put(t, l, other, api.OK)
	l.Sync()
	_, got = open(t, x.d)
	alike(t, "opened again", got, a, other)
	is(t, x.d, standing(a, other))
}

// Promise 17.3: a sector of a lost record that is right by itself, at the place of one that is put next, is not taken for it.
func TestNothingComesBackOutOfARecord(t *testing.T) {
	a, inner := recordOf(0, 5), recordOf(9, 20)
	for number := range 4 {
		outer := append(filled('o', 52), plainSectors(number, inner)...)
		x := pairOf(t, "fresh", diskOf(t, 10, nil))
		x.put(t, a)
		x.sync()
		x.put(t, outer)
		x = x.crash(t, []int{2}, 1, 12)
		stands(t, x.l, 1, 1)
		x.put(t, recordOf(11, 52))
		_, got := open(t, x.d)
		alike(t, number, got, a, recordOf(11, 52))
	}
}

// Promise 17.3 and T4: histories of records, of which each has a name: what is there behind a crash is a beginning of what was put, with all that were synced; what was lost is never told again; as the plain one.
func TestHistories(t *testing.T) {
	chance := rand.New(rand.NewSource(173))
	for range 250 {
		sectors := 10 + chance.Intn(60)
		x := pairOf(t, "fresh", diskOf(t, sectors, nil))
		var all [][]byte
		synced, name := 0, uint64(0)
		lost := map[uint64]bool{}
		for range 40 {
			switch chance.Intn(8) {
			case 0:
				x.sync()
				synced = len(all)
			case 1, 2:
				keep := slices.DeleteFunc(x.d.Dirty(), func(int) bool { return chance.Intn(4) == 0 })
				x = x.crash(t, keep, chance.Intn(sectors), chance.Intn(66))
				_, got := open(t, x.d)
				beginning(t, "crashed", got, all, synced)
				for _, b := range all[len(got):] {
					lost[binary.BigEndian.Uint64(b)] = true
				}
				for _, b := range got {
					if lost[binary.BigEndian.Uint64(b)] {
						t.Fatalf("record %x came back", b[:8])
					}
				}
				all, synced = slices.Clone(all[:len(got)]), len(got)
			default:
				name++
				b := append(binary.BigEndian.AppendUint64(nil, name), randomBytes(chance, chance.Intn(150))...)
				if x.put(t, b) == api.OK {
					all = append(all, b)
				}
			}
			x.same(t, "history")
		}
	}
}

// Promise 17.3: of records of the greatest length, and of a full disk.
func TestCrashOfAFullDisk(t *testing.T) {
	chance := rand.New(rand.NewSource(4096))
	for range 10 {
		x := pairOf(t, "fresh", diskOf(t, 4096, nil))
		var all [][]byte
		for number := range 13 {
			all = append(all, recordOf(number, 20000-number))
			x.put(t, all[number])
			if number == 4 {
				x.sync()
			}
		}
		lost := 1600 + chance.Intn(2500)
		keep := slices.DeleteFunc(x.d.Dirty(), func(at int) bool { return at == lost })
		x = x.crash(t, keep, lost, chance.Intn(12))
		_, got := open(t, x.d)
		beginning(t, lost, got, all, 5)
		if want := min(lost/313, 13); len(got) != want {
			t.Fatalf("sector %d lost: %d records, want %d", lost, len(got), want)
		}
		x.put(t, recordOf(50, 20000))
		x.same(t, lost)
	}
}
