package disk

import (
	"bytes"
	"math"
	"slices"
	"testing"

	"chirograph/api"
)

// otherSizes are neither from 0 to 4,096 nor taken for such when they are cut to fewer bits.
var otherSizes = []int{-1, -2, -64, -4096, 4097, 4098, 8192, 1 << 16, 1<<16 + 4, 1 << 31, 1 << 32, 1<<32 + 4, -1<<32 + 4, math.MaxInt32, math.MinInt32, math.MaxInt, math.MinInt}

// nowhere are numbers of no sector, of any disk.
var nowhere = []int{-1, -2, -64, -4096, 4096, 4097, 1 << 16, 1 << 31, 1 << 32, 1<<32 + 1, -1<<32 + 1, math.MaxInt32, math.MinInt32, math.MaxInt, math.MinInt}

// filled is so many bytes of one letter.
func filled(letter byte, n int) []byte { return bytes.Repeat([]byte{letter}, n) }

// padded is what a sector is that these were written to.
func padded(b []byte) []byte { return append(bytes.Clone(b), make([]byte, 64-len(b))...) }

// striped is bytes each of which is unlike the one ahead, none of them a nought.
func striped(from byte, n int) []byte {
	b := make([]byte, n)
	for m := range b {
		b[m] = from + byte(m)%64
	}
	return b
}

func fresh(t *testing.T, sectors int) *Disk {
	t.Helper()
	d, e := New(sectors)
	if e != api.OK || d == nil {
		t.Fatalf("New of %d: error %d", sectors, e)
	}
	return d
}

func write(t *testing.T, d *Disk, at int, b []byte, want int) {
	t.Helper()
	if e := d.Write(at, b); e != want {
		t.Fatalf("Write of %d bytes at %d of %d: error %d, want %d", len(b), at, d.Len(), e, want)
	}
}

// is tells whether just these bytes are read there.
func is(t *testing.T, d *Disk, at int, want []byte) {
	t.Helper()
	b, e := d.Read(at)
	if e != api.OK || len(b) != 64 || !bytes.Equal(b, want) {
		t.Fatalf("sector %d: error %d, %x, want %x", at, e, b, want)
	}
}

// none tells whether there is no such sector, neither to read nor to write.
func none(t *testing.T, d *Disk, at int) {
	t.Helper()
	if b, e := d.Read(at); e != api.ErrNone || len(b) != 0 {
		t.Fatalf("Read at %d of %d: error %d, %x", at, d.Len(), e, b)
	}
	for _, b := range [][]byte{nil, {1}, filled('x', 64), filled('x', 65)} {
		write(t, d, at, b, api.ErrNone)
	}
}

func dirty(t *testing.T, d *Disk, want ...int) {
	t.Helper()
	if l := d.Dirty(); !slices.Equal(l, want) {
		t.Fatalf("dirty: %v, want %v", l, want)
	}
}

// same tells whether the disk is as the plain one.
func same(t *testing.T, what any, d *Disk, p *plainDisk) {
	t.Helper()
	if d.Len() != len(p.since) {
		t.Fatalf("%v: %d sectors, want %d", what, d.Len(), len(p.since))
	}
	for at := range p.since {
		want, _ := p.read(at)
		if b, e := d.Read(at); e != api.OK || !bytes.Equal(b, want) {
			t.Fatalf("%v: sector %d: error %d, %x, want %x", what, at, e, b, want)
		}
	}
	if l, want := d.Dirty(), p.dirty(); !slices.Equal(l, want) {
		t.Fatalf("%v: dirty: %v, want %v", what, l, want)
	}
}

// pair is a disk and the plain one, of which the same is asked.
type pair struct {
	d *Disk
	p *plainDisk
}

func pairOf(t *testing.T, sectors int) pair {
	t.Helper()
	return pair{fresh(t, sectors), plainNew(sectors)}
}

// written is a pair of which all sectors are synced, and these were written since.
func written(t *testing.T, sectors int, since ...int) pair {
	t.Helper()
	x := pairOf(t, sectors)
	for at := range sectors {
		x.write(t, at, filled(byte('a'+at), 64))
	}
	x.sync()
	for _, at := range since {
		x.write(t, at, striped(byte(100+at), 64-at))
	}
	return x
}

func (x pair) write(t *testing.T, at int, b []byte) {
	t.Helper()
	write(t, x.d, at, b, x.p.write(at, b))
}

func (x pair) sync() {
	x.d.Sync()
	x.p.sync()
}

func (x pair) crash(keep []int, torn, n int) {
	x.d.Crash(keep, torn, n)
	x.p.crash(keep, torn, n)
}

// chosen are those of the numbers from 0 on whose bits are set.
func chosen(bits int) []int {
	var l []int
	for n := 0; bits>>n > 0; n++ {
		if bits>>n&1 == 1 {
			l = append(l, n)
		}
	}
	return l
}
