package wal

import (
	"bytes"
	"math/rand"
	"slices"
	"testing"

	"chirograph/api"
	"chirograph/disk"
)

// otherLengths are of no record, also where one is cut to fewer bits.
var otherLengths = []int{0, 20001, 20002, 20032, 1 << 15, 1 << 16, 1<<16 + 1, 1<<16 + 20, 2<<16 + 20000, 1 << 20, 1<<24 + 3}

// recordOf is a record's bytes, unlike those of another number.
func recordOf(number, size int) []byte {
	b := make([]byte, size)
	for n := range b {
		b[n] = byte(7*number + 11*n + n>>8)
	}
	return b
}

func filled(v byte, n int) []byte { return bytes.Repeat([]byte{v}, n) }

// diskOf is one on which these bytes stand, and noughts behind, to that number of sectors; all is synced.
func diskOf(t *testing.T, sectors int, image []byte) *disk.Disk {
	t.Helper()
	d, e := disk.New(sectors)
	if e != api.OK {
		t.Fatalf("%d sectors: error %d", sectors, e)
	}
	lay(t, d, 0, image)
	d.Sync()
	return d
}

// lay writes bytes from that sector on.
func lay(t *testing.T, d *disk.Disk, at int, b []byte) {
	t.Helper()
	for len(b) > 0 {
		n := min(64, len(b))
		if e := d.Write(at, b[:n]); e != api.OK {
			t.Fatalf("sector %d of %d: error %d", at, d.Len(), e)
		}
		at, b = at+1, b[n:]
	}
}

// imageOf is all bytes of a disk, sector behind sector.
func imageOf(d *disk.Disk) []byte {
	var image []byte
	for at := range d.Len() {
		b, _ := d.Read(at)
		image = append(image, b...)
	}
	return image
}

// standing is what records stand as, one behind the other.
func standing(l ...[]byte) []byte {
	var image []byte
	for number, b := range l {
		image = append(image, plainSectors(number, b)...)
	}
	return image
}

func open(t *testing.T, d *disk.Disk) (*Log, [][]byte) {
	t.Helper()
	l, records, e := Open(d)
	if e != api.OK || l == nil {
		t.Fatalf("Open of %d sectors: error %d", d.Len(), e)
	}
	return l, records
}

// fresh is a log of a disk on which nothing stands.
func fresh(t *testing.T, sectors int) (*Log, *disk.Disk) {
	t.Helper()
	d := diskOf(t, sectors, nil)
	l, records := open(t, d)
	alike(t, "fresh", records)
	stands(t, l, 0, 0)
	return l, d
}

func put(t *testing.T, l *Log, b []byte, want int) {
	t.Helper()
	if e := l.Put(b); e != want {
		t.Fatalf("Put of %d bytes, %d records on %d sectors: error %d, want %d", len(b), l.Len(), l.Used(), e, want)
	}
}

// stands tells whether the log is told to have so many records and sectors.
func stands(t *testing.T, l *Log, records, used int) {
	t.Helper()
	if a, b := l.Len(), l.Used(); a != records || b != used {
		t.Fatalf("%d records, %d sectors, want %d, %d", a, b, records, used)
	}
}

func dirty(t *testing.T, d *disk.Disk, want ...int) {
	t.Helper()
	if l := d.Dirty(); !slices.Equal(l, want) {
		t.Fatalf("dirty: %v, want %v", l, want)
	}
}

// is tells whether just these bytes stand on the disk, with noughts behind.
func is(t *testing.T, d *disk.Disk, want []byte) {
	t.Helper()
	image := imageOf(d)
	want = append(bytes.Clone(want), make([]byte, len(image)-len(want))...)
	for at := range d.Len() {
		if got, want := image[64*at:64*at+64], want[64*at:64*at+64]; !bytes.Equal(got, want) {
			t.Fatalf("sector %d: %x, want %x", at, got, want)
		}
	}
}

// alike tells whether just these records were told, in that order.
func alike(t *testing.T, what any, got [][]byte, want ...[]byte) {
	t.Helper()
	if len(got) != len(want) {
		t.Fatalf("%v: %d records, want %d", what, len(got), len(want))
	}
	for number := range want {
		if !bytes.Equal(got[number], want[number]) {
			t.Fatalf("%v: record %d: %d bytes, want %d (%.20x, want %.20x)", what, number, len(got[number]), len(want[number]), got[number], want[number])
		}
	}
}

// opens tells whether a disk with these bytes has just these records, and only their sectors behind it, synced; it answers its log.
func opens(t *testing.T, what any, sectors int, image []byte, want ...[]byte) (*Log, *disk.Disk) {
	t.Helper()
	d := diskOf(t, sectors, image)
	l, records := open(t, d)
	alike(t, what, records, want...)
	used := len(standing(want...)) / 64
	stands(t, l, len(want), used)
	is(t, d, image[:min(64*used, len(image))])
	dirty(t, d)
	return l, d
}

// pair is a log with its disk, and the plain one, of which the same is asked.
type pair struct {
	l *Log
	d *disk.Disk
	p *plainLog
}

// pairOf opens both, and holds the records that are told against each other.
func pairOf(t *testing.T, what any, d *disk.Disk) *pair {
	t.Helper()
	p := plainOpen(imageOf(d))
	l, records := open(t, d)
	alike(t, what, records, p.records...)
	x := &pair{l, d, p}
	x.same(t, what)
	return x
}

func (x *pair) put(t *testing.T, b []byte) int {
	t.Helper()
	want := x.p.put(b)
	put(t, x.l, b, want)
	return want
}

func (x *pair) sync() {
	x.l.Sync()
	x.p.sync()
}

// crash is one, and that both are opened again.
func (x *pair) crash(t *testing.T, keep []int, torn, n int) *pair {
	t.Helper()
	x.d.Crash(keep, torn, n)
	x.p.crash(keep, torn, n)
	if !bytes.Equal(imageOf(x.d), x.p.now) {
		t.Fatalf("crashed with %v, %d, %d: the disks are unlike", keep, torn, n)
	}
	return pairOf(t, []any{keep, torn, n}, x.d)
}

// same tells whether the log and its disk are as the plain ones.
func (x *pair) same(t *testing.T, what any) {
	t.Helper()
	if a, b := x.l.Len(), x.l.Used(); a != len(x.p.records) || b != x.p.used {
		t.Fatalf("%v: %d records, %d sectors, want %d, %d", what, a, b, len(x.p.records), x.p.used)
	}
	if image := imageOf(x.d); !bytes.Equal(image, x.p.now) {
		t.Fatalf("%v: the disk is unlike:\n%x, want\n%x", what, image, x.p.now)
	}
	if l, want := x.d.Dirty(), x.p.dirty(); !slices.Equal(l, want) {
		t.Fatalf("%v: dirty: %v, want %v", what, l, want)
	}
}

func randomBytes(chance *rand.Rand, size int) []byte {
	b := make([]byte, size)
	chance.Read(b)
	return b
}

// chosen are those of the numbers from 0 on whose bits are set.
func chosen(bits int) []int {
	var l []int
	for n := 0; bits>>n > 0; n++ {
		if bits>>n&1 == 1 {
			l = append(l, n)
		}
	}
	return l
}
