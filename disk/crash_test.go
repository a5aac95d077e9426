package disk

import (
	"bytes"
	"math"
	"math/rand"
	"slices"
	"testing"

	"chirograph/api"
)

// The chapter's example: Write, Crash(none, -1, 0): noughts.
func TestExample(t *testing.T) {
	d := fresh(t, 1)
	write(t, d, 0, []byte("lost"), api.OK)
	d.Crash(nil, -1, 0)
	is(t, d, 0, make([]byte, 64))
	dirty(t, d)
}

// Promise 16.2, written out: one is kept, one is torn, one is lost, one was not dirty.
func TestCrashWrittenOut(t *testing.T) {
	d := fresh(t, 4)
	for at, text := range []string{"aaaa", "bbbb", "cccc", "dddd"} {
		write(t, d, at, []byte(text), api.OK)
	}
	d.Sync()
	for at, text := range []string{"AA", "BB", "CC"} {
		write(t, d, at, []byte(text), api.OK)
	}
	d.Crash([]int{0, 3}, 1, 3)
	for at, text := range []string{"AA", "BB\x00b", "cccc", "dddd"} {
		is(t, d, at, padded([]byte(text)))
	}
	dirty(t, d)
}

// Promise 16.2: of four sectors, whichever are dirty, whichever are kept, whichever is torn, and where.
func TestCrashEveryWay(t *testing.T) {
	for since := range 16 {
		for kept := range 16 {
			for torn := -1; torn <= 4; torn++ {
				for _, n := range []int{-1, 0, 1, 31, 63, 64, 65} {
					x := written(t, 4, chosen(since)...)
					x.crash(chosen(kept), torn, n)
					what := []any{chosen(since), chosen(kept), torn, n}
					same(t, what, x.d, x.p)
					x.crash(nil, -1, 0)
					same(t, what, x.d, x.p)
				}
			}
		}
	}
}

// Promise 16.2: the first n bytes of what was written, of each n and of each length, the noughts behind it among them; and behind that what was synced.
func TestCrashTornAnywhere(t *testing.T) {
	old := striped(128, 64)
	for size := range 65 {
		b := padded(striped(1, size))
		for n := range 65 {
			d := fresh(t, 2)
			write(t, d, 1, old, api.OK)
			d.Sync()
			write(t, d, 1, b[:size], api.OK)
			d.Crash(nil, 1, n)
			is(t, d, 1, slices.Concat(b[:n], old[n:]))
			is(t, d, 0, make([]byte, 64))
			dirty(t, d)
		}
	}
}

// Promise 16.2: an n below 0 is as 0, one above 64 as 64.
func TestCrashTornOutside(t *testing.T) {
	below := []int{-1, -2, -64, -1 << 31, -1 << 32, -1<<32 + 5, math.MinInt32, math.MinInt, math.MinInt + 5}
	above := []int{65, 66, 128, 255, 256, 256 + 5, 1 << 16, 1<<16 + 5, 1 << 31, 1 << 32, 1<<32 + 5, math.MaxInt32, math.MaxInt}
	for side, numbers := range [][]int{below, above} {
		for _, n := range numbers {
			d := fresh(t, 1)
			write(t, d, 0, []byte("old"), api.OK)
			d.Sync()
			write(t, d, 0, striped(1, 64), api.OK)
			d.Crash(nil, 0, n)
			is(t, d, 0, [][]byte{padded([]byte("old")), striped(1, 64)}[side])
			dirty(t, d)
		}
	}
}

// Promise 16.2: a torn one that is no sector, or not dirty, changes nothing.
func TestCrashTornElsewhere(t *testing.T) {
	for _, torn := range append([]int{0, 2, 3}, nowhere...) {
		for _, n := range []int{0, 1, 64} {
			x := written(t, 3, 1)
			x.crash(nil, torn, n)
			same(t, torn, x.d, x.p)
			is(t, x.d, 1, filled('b', 64))
		}
	}
}

// Promise 16.2: one that stands in keep stays as it was written, though it is said to be torn.
func TestCrashTornAndKept(t *testing.T) {
	for n := -1; n <= 65; n++ {
		for _, keep := range [][]int{{1}, {0, 1}, {1, 0}, {2, 1, 1}} {
			x := written(t, 3, 0, 1)
			x.crash(keep, 1, n)
			same(t, n, x.d, x.p)
			is(t, x.d, 1, padded(striped(101, 63)))
		}
	}
}

// Promise 16.2: keep may name sectors in any order, several times, and such as are not dirty or none at all.
func TestCrashKeepsAnything(t *testing.T) {
	for _, keep := range [][]int{{3, 1}, {1, 3, 1, 1}, append([]int{3, 1}, nowhere...), append(slices.Clone(nowhere), 0, 1, 2, 3, 4, 5), {5, 4, 3, 2, 1, 0}, slices.Repeat([]int{1, 3}, 1000)} {
		x := written(t, 5, 1, 2, 3)
		ahead := slices.Clone(keep)
		x.crash(keep, -1, 0)
		same(t, keep, x.d, x.p)
		is(t, x.d, 1, padded(striped(101, 63)))
		if !slices.Equal(keep, ahead) {
			t.Errorf("keep is %v now, was %v", keep, ahead)
		}
	}
}

// Promise 16.2 and rule 5 of the document: nothing is kept by a nil list, nor by an empty one.
func TestCrashKeepsNone(t *testing.T) {
	for _, keep := range [][]int{nil, {}} {
		x := written(t, 3, 0, 1, 2)
		x.crash(keep, 1, 5)
		same(t, keep == nil, x.d, x.p)
	}
}

// Promise 16.2: the number of a sector that was kept once is not kept for the next crash.
func TestCrashForgetsKeep(t *testing.T) {
	x := written(t, 3, 0, 1)
	x.crash([]int{0, 1}, 2, 9)
	x.write(t, 0, []byte("lost"))
	x.write(t, 2, []byte("lost"))
	x.crash(nil, -1, 0)
	same(t, "again", x.d, x.p)
	is(t, x.d, 0, padded(striped(100, 64)))
	is(t, x.d, 2, filled('c', 64))
}

// Promise 16.2: of what was written several times no more is there than the last one and what was synced.
func TestCrashOfWrittenTwice(t *testing.T) {
	for _, k := range []struct {
		keep    []int
		torn, n int
		want    string
	}{
		{nil, -1, 0, "synced"},
		{[]int{0}, -1, 0, "new"},
		{nil, 0, 2, "nenced"},
		{nil, 0, 4, "new\x00ed"},
		{nil, 0, 64, "new"},
	} {
		d := fresh(t, 1)
		write(t, d, 0, []byte("older one"), api.OK)
		write(t, d, 0, []byte("synced"), api.OK)
		d.Sync()
		write(t, d, 0, []byte("in between"), api.OK)
		write(t, d, 0, []byte("new"), api.OK)
		d.Crash(k.keep, k.torn, k.n)
		is(t, d, 0, padded([]byte(k.want)))
	}
}

// Promise 16.2: all is synced behind a crash: what it left is there behind the next one.
func TestAllIsSyncedBehindACrash(t *testing.T) {
	x := written(t, 4, 0, 1, 2)
	x.crash([]int{0}, 1, 20)
	same(t, "crashed", x.d, x.p)
	for at := range 4 {
		x.write(t, at, []byte("gone"))
	}
	x.crash(nil, -1, 0)
	same(t, "crashed again", x.d, x.p)
	is(t, x.d, 0, padded(striped(100, 64)))
	is(t, x.d, 1, slices.Concat(striped(101, 20), filled('b', 44)))
	is(t, x.d, 2, filled('c', 64))
	is(t, x.d, 3, filled('d', 64))
}

// Promises 16.1 and 16.2: a crash that keeps all that is dirty is as a Sync.
func TestCrashThatKeepsAll(t *testing.T) {
	for since := range 64 {
		a, b := written(t, 6, chosen(since)...), written(t, 6, chosen(since)...)
		a.d.Crash(a.d.Dirty(), -1, 0)
		b.sync()
		same(t, since, a.d, b.p)
	}
}

// Promises 16.1 and 16.2: of the greatest disk, half of what is dirty kept.
func TestCrashOfAll(t *testing.T) {
	x := pairOf(t, 4096)
	var keep []int
	for at := range 4096 {
		x.write(t, at, []byte{byte(at), byte(at >> 8), 1})
		if at%2 == 0 {
			keep = append(keep, at)
		}
	}
	x.crash(keep, 4095, 2)
	same(t, "crashed", x.d, x.p)
	is(t, x.d, 4094, padded([]byte{254, 15, 1}))
	is(t, x.d, 4095, padded([]byte{255, 15}))
	is(t, x.d, 4093, make([]byte, 64))
}

// Promise 16.3 and T4: what was synced stays over every crash, of whatever is written behind it elsewhere; what was not is each byte either what was synced or what was written.
func TestWhatWasSyncedStays(t *testing.T) {
	chance := rand.New(rand.NewSource(163))
	for range 300 {
		d := fresh(t, 8)
		synced := make([][]byte, 8)
		for range 12 {
			for at := range synced {
				if chance.Intn(2) == 0 {
					write(t, d, at, randomBytes(chance), api.OK)
				}
			}
			d.Sync()
			for at := range synced {
				synced[at], _ = d.Read(at)
			}
			last := map[int][]byte{}
			for range chance.Intn(9) {
				at := chance.Intn(8)
				last[at] = randomBytes(chance)
				write(t, d, at, last[at], api.OK)
			}
			d.Crash(randomKeep(chance), chance.Intn(10)-1, chance.Intn(67)-1)
			for at := range synced {
				b, written := last[at]
				if !written {
					is(t, d, at, synced[at])
					continue
				}
				between(t, d, at, synced[at], padded(b))
			}
		}
	}
}

// between tells whether the sector has a beginning of what was written, and behind it what was synced.
func between(t *testing.T, d *Disk, at int, synced, written []byte) {
	t.Helper()
	got, _ := d.Read(at)
	for n := range 65 {
		if bytes.Equal(got, slices.Concat(written[:n], synced[n:])) {
			return
		}
	}
	t.Fatalf("sector %d: %x, synced %x, written %x", at, got, synced, written)
}

// Promise 16.3 and T4: who writes sector behind sector, and syncs now and then, finds all behind a crash that it had written ahead of the last Sync; of one more it finds at most a part, of those that were lost nothing.
func TestBeginsAgainWithWhatWasSynced(t *testing.T) {
	for done := range 6 {
		for kept := range 1 << (6 - done) {
			for torn := done; torn < 6; torn++ {
				d := fresh(t, 6)
				for at := range 6 {
					if at == done {
						d.Sync()
					}
					write(t, d, at, striped(byte(1+at), 64), api.OK)
				}
				var keep []int
				for _, n := range chosen(kept) {
					keep = append(keep, done+n)
				}
				d.Crash(keep, torn, 32)
				for at := range 6 {
					switch {
					case at < done || slices.Contains(keep, at):
						is(t, d, at, striped(byte(1+at), 64))
					case at == torn:
						is(t, d, at, padded(striped(byte(1+at), 32)))
					default:
						is(t, d, at, make([]byte, 64))
					}
				}
			}
		}
	}
}

func randomBytes(chance *rand.Rand) []byte {
	b := make([]byte, chance.Intn(65))
	chance.Read(b)
	return b
}

// randomKeep names any sectors, some that are none among them.
func randomKeep(chance *rand.Rand) []int {
	l := make([]int, chance.Intn(6))
	for n := range l {
		l[n] = chance.Intn(12) - 2
	}
	return l
}

// Rule 3 of the document, promises 16.1 to 16.3: random calls, as the plain one; and the same calls on another disk, with the same answers.
func TestRandomCalls(t *testing.T) {
	chance := rand.New(rand.NewSource(16))
	for round := range 400 {
		sectors := chance.Intn(10)
		x, twin := pairOf(t, sectors), fresh(t, sectors)
		for range 60 {
			switch chance.Intn(9) {
			case 0:
				x.sync()
				twin.Sync()
			case 1:
				keep, torn, n := randomKeep(chance), chance.Intn(sectors+3)-1, chance.Intn(70)-3
				x.crash(keep, torn, n)
				twin.Crash(keep, torn, n)
			default:
				at, b := chance.Intn(sectors+3)-1, randomBytes(chance)
				if chance.Intn(8) == 0 {
					b = append(padded(b), b...)
				}
				x.write(t, at, b)
				write(t, twin, at, b, x.p.write(at, b))
			}
			same(t, round, x.d, x.p)
			same(t, round, twin, x.p)
		}
	}
}
