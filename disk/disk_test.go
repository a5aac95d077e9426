package disk

import (
	"bytes"
	"math/rand"
	"slices"
	"testing"

	"chirograph/api"
)

// Promise 16.1: ErrArg of other numbers of sectors, beside no disk.
func TestNewOfOtherSizes(t *testing.T) {
	for _, n := range otherSizes {
		if d, e := New(n); e != api.ErrArg || d != nil {
			t.Errorf("%d sectors: error %d, %v", n, e, d != nil)
		}
	}
}

// Promise 16.1: from 0 to 4,096 sectors.
func TestNewOfEachSize(t *testing.T) {
	for n := range 4097 {
		d := fresh(t, n)
		if d.Len() != n {
			t.Fatalf("%d sectors: %d", n, d.Len())
		}
		none(t, d, n)
		dirty(t, d)
	}
}

// Promise 16.1: each sector has 64 bytes, all 0, synced; beside them there are none.
func TestNew(t *testing.T) {
	for _, n := range []int{0, 1, 2, 63, 64, 65, 4095, 4096} {
		d := fresh(t, n)
		for at := range n {
			is(t, d, at, make([]byte, 64))
		}
		dirty(t, d)
		d.Crash(chosen(1<<min(n, 60)-1), 0, 64)
		for at := range n {
			is(t, d, at, make([]byte, 64))
		}
		for _, at := range nowhere {
			none(t, d, at)
		}
		none(t, d, n)
		dirty(t, d)
	}
}

// Promise 16.1: the sector is what was written, of each length from 0 to 64, with noughts behind; whatever stood there, and the sectors beside it stay.
func TestWriteOfEachLength(t *testing.T) {
	for n := range 65 {
		for at := range 3 {
			d := fresh(t, 3)
			for m := range 3 {
				write(t, d, m, filled('z', 64), api.OK)
			}
			d.Sync()
			b := striped(1, n)
			write(t, d, at, b, api.OK)
			dirty(t, d, at)
			for m := range 3 {
				want := filled('z', 64)
				if m == at {
					want = padded(b)
				}
				is(t, d, m, want)
			}
			d.Sync()
			is(t, d, at, padded(b))
		}
	}
}

// Promise 16.1: the last sector of the greatest disk is one as others.
func TestWriteAtTheEnd(t *testing.T) {
	d := fresh(t, 4096)
	write(t, d, 4095, []byte("last"), api.OK)
	write(t, d, 0, []byte("first"), api.OK)
	is(t, d, 4095, padded([]byte("last")))
	is(t, d, 0, padded([]byte("first")))
	is(t, d, 4094, make([]byte, 64))
	is(t, d, 1, make([]byte, 64))
	dirty(t, d, 0, 4095)
}

// Promise 16.1: of what was written there several times the last one counts, with no more of the others than what it has.
func TestWriteAgain(t *testing.T) {
	d := fresh(t, 2)
	for _, b := range [][]byte{filled('a', 64), []byte("b"), filled('c', 63), nil, filled('d', 20), {}} {
		for range 2 {
			write(t, d, 1, b, api.OK)
			is(t, d, 1, padded(b))
			is(t, d, 0, make([]byte, 64))
			dirty(t, d, 1)
		}
	}
}

// Promise 16.1: ErrArg of more than 64 bytes, and nothing has changed: neither of a sector that is synced nor of one that was written.
func TestWriteTooLong(t *testing.T) {
	for _, n := range []int{65, 66, 127, 128, 256, 256 + 4, 1<<16 + 4, 1 << 20} {
		d := fresh(t, 3)
		write(t, d, 0, []byte("synced"), api.OK)
		d.Sync()
		write(t, d, 1, []byte("written"), api.OK)
		for at := range 3 {
			write(t, d, at, filled('x', n), api.ErrArg)
		}
		is(t, d, 0, padded([]byte("synced")))
		is(t, d, 1, padded([]byte("written")))
		is(t, d, 2, make([]byte, 64))
		dirty(t, d, 1)
	}
}

// Promise 16.1: ErrNone of no such sector, also of more than 64 bytes (it is named first); and nothing has changed.
func TestNoSuchSector(t *testing.T) {
	for _, sectors := range []int{0, 1, 3, 64, 4095, 4096} {
		d := fresh(t, sectors)
		if sectors > 0 {
			write(t, d, sectors-1, []byte("end"), api.OK)
		}
		for _, at := range append([]int{sectors, sectors + 1}, nowhere...) {
			if at < 0 || at >= sectors {
				none(t, d, at)
			}
		}
		if sectors == 0 {
			dirty(t, d)
			continue
		}
		dirty(t, d, sectors-1)
		is(t, d, sectors-1, padded([]byte("end")))
	}
}

// Promise 16.1: the dirty ones are told rising, each once, in whatever order they were written.
func TestDirtyRises(t *testing.T) {
	chance := rand.New(rand.NewSource(16))
	for sectors := range 100 {
		d := fresh(t, sectors)
		var want []int
		for _, at := range chance.Perm(sectors) {
			for range 1 + chance.Intn(2) {
				write(t, d, at, []byte{byte(at)}, api.OK)
			}
			want = append(want, at)
			slices.Sort(want)
			dirty(t, d, want...)
		}
		d.Sync()
		dirty(t, d)
	}
}

// Promise 16.1: a sector that was written is dirty, though the bytes are those that stood there.
func TestDirtyOfTheSameBytes(t *testing.T) {
	d := fresh(t, 3)
	write(t, d, 2, nil, api.OK)
	write(t, d, 0, make([]byte, 64), api.OK)
	dirty(t, d, 0, 2)
	d.Sync()
	write(t, d, 1, []byte("as"), api.OK)
	d.Sync()
	dirty(t, d)
	write(t, d, 1, []byte("as\x00"), api.OK)
	dirty(t, d, 1)
	write(t, d, 1, []byte("other"), api.OK)
	write(t, d, 1, []byte("as"), api.OK)
	dirty(t, d, 1)
}

// Promise 16.1: all is synced, and reads as it did; what is written behind it is dirty anew.
func TestSync(t *testing.T) {
	x := pairOf(t, 5)
	for round := range 4 {
		for at := range round + 1 {
			x.write(t, at, striped(byte(20*round+at), 10*round+at))
		}
		same(t, round, x.d, x.p)
		for range 2 {
			x.sync()
			same(t, round, x.d, x.p)
		}
		x.crash(nil, -1, 0)
		same(t, round, x.d, x.p)
	}
}

// Promise 16.1: of the greatest disk all is synced, too.
func TestSyncOfAll(t *testing.T) {
	x := pairOf(t, 4096)
	for at := range 4096 {
		x.write(t, at, []byte{byte(at), byte(at >> 8), 1})
	}
	same(t, "written", x.d, x.p)
	x.sync()
	same(t, "synced", x.d, x.p)
	x.crash(nil, 4095, 3)
	same(t, "crashed", x.d, x.p)
}

// Of a nil Disk: ErrNone, nothing; one that New did not make has no sectors.
func TestNoDisk(t *testing.T) {
	for what, d := range map[string]*Disk{"nil": nil, "zero": {}} {
		for range 2 {
			for _, at := range append([]int{0, 1, 63}, nowhere...) {
				none(t, d, at)
			}
			if l := d.Dirty(); len(l) != 0 {
				t.Errorf("%s: dirty %v", what, l)
			}
			if n := d.Len(); n != 0 {
				t.Errorf("%s: %d sectors", what, n)
			}
			d.Sync()
			d.Crash(nil, -1, 0)
			d.Crash([]int{0, 1, -1}, 0, 64)
		}
	}
}

// Rule 2 of the document: what is handed in is not changed and not kept; what is answered is the caller's own.
func TestNothingIsShared(t *testing.T) {
	d := fresh(t, 2)
	b := striped(7, 64)
	write(t, d, 0, b, api.OK)
	if !bytes.Equal(b, striped(7, 64)) {
		t.Errorf("the bytes are %x now", b)
	}
	clear(b)
	is(t, d, 0, striped(7, 64))
	for range 2 { // written, then synced
		one, _ := d.Read(0)
		other, _ := d.Read(0)
		clear(one[:cap(one)])
		is(t, d, 0, striped(7, 64))
		if !bytes.Equal(other, striped(7, 64)) {
			t.Error("two answers share bytes")
		}
		_ = append(other, filled('x', 64)...)
		is(t, d, 1, make([]byte, 64))
		write(t, d, 1, []byte("beside"), api.OK)
		l := d.Dirty()
		for n := range l {
			l[n] = 9
		}
		if l := d.Dirty(); slices.Contains(l, 9) {
			t.Errorf("dirty %v", l)
		}
		d.Sync()
		write(t, d, 1, nil, api.OK)
		d.Sync()
	}
}

// Rule 2 of the document: bytes that were read stay as they are, whatever becomes of the disk.
func TestWhatWasReadStays(t *testing.T) {
	d := fresh(t, 1)
	write(t, d, 0, []byte("one"), api.OK)
	one, _ := d.Read(0)
	d.Sync()
	synced, _ := d.Read(0)
	write(t, d, 0, []byte("two"), api.OK)
	two, _ := d.Read(0)
	d.Crash(nil, 0, 1)
	d.Sync()
	if string(one[:3]) != "one" || string(synced[:3]) != "one" || string(two[:3]) != "two" {
		t.Errorf("%q, %q, %q", one, synced, two)
	}
	is(t, d, 0, padded([]byte("tne")))
}

// Rule 2 of the document: two disks have nothing in common.
func TestDisksStandApart(t *testing.T) {
	a, b := fresh(t, 2), fresh(t, 2)
	write(t, a, 0, []byte("a"), api.OK)
	write(t, b, 1, []byte("b"), api.OK)
	a.Sync()
	dirty(t, a)
	dirty(t, b, 1)
	b.Crash(nil, -1, 0)
	is(t, a, 0, padded([]byte("a")))
	is(t, a, 1, make([]byte, 64))
	is(t, b, 0, make([]byte, 64))
	is(t, b, 1, make([]byte, 64))
}
