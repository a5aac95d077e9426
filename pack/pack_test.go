package pack

import (
	"bytes"
	"encoding/binary"
	"math"
	"math/rand"
	"slices"
	"testing"

	"chirograph/api"
)

// Promise 2.1: the zero value has no bytes.
func TestWriterOfNothing(t *testing.T) {
	var w Writer
	if b := w.Bytes(); len(b) != 0 {
		t.Errorf("zero value: %x", b)
	}
}

// Promise 2.1: the lowest bytes, the greatest first.
func TestWriterNum(t *testing.T) {
	for _, k := range []struct {
		v     uint64
		bytes int
		want  []byte
	}{
		{258, 2, []byte{1, 2}},
		{258, 1, []byte{2}},
		{258, 4, []byte{0, 0, 1, 2}},
		{0, 1, []byte{0}},
		{0, 8, make([]byte, 8)},
		{0x0102030405060708, 8, []byte{1, 2, 3, 4, 5, 6, 7, 8}},
		{0x0102030405060708, 7, []byte{2, 3, 4, 5, 6, 7, 8}},
		{0x0102030405060708, 5, []byte{4, 5, 6, 7, 8}},
		{0x0102030405060708, 3, []byte{6, 7, 8}},
		{math.MaxUint64, 8, bytes.Repeat([]byte{255}, 8)},
		{math.MaxUint64, 6, bytes.Repeat([]byte{255}, 6)},
	} {
		var w Writer
		w.Num(k.v, k.bytes)
		if got := w.Bytes(); !bytes.Equal(got, k.want) {
			t.Errorf("Num(%d, %d): %x, want %x", k.v, k.bytes, got, k.want)
		}
	}
}

// Promise 2.1: as the library writes numbers whole.
func TestWriterNumAsTheLibrary(t *testing.T) {
	chance := rand.New(rand.NewSource(1))
	for range 1000 {
		v := chance.Uint64()
		whole := binary.BigEndian.AppendUint64(nil, v)
		for n := 1; n <= 8; n++ {
			var w Writer
			w.Num(v, n)
			if got := w.Bytes(); !bytes.Equal(got, whole[8-n:]) {
				t.Fatalf("Num(%x, %d): %x", v, n, got)
			}
		}
	}
}

// Promise 2.1: as many bytes as no number has: nothing is written.
func TestWriterNumOfOtherSizes(t *testing.T) {
	var w Writer
	w.Raw([]byte("ahead"))
	for _, n := range []int{0, -1, 9, 10, 16, 256 + 4, math.MaxInt, math.MinInt} {
		w.Num(math.MaxUint64, n)
		if got := w.Bytes(); string(got) != "ahead" {
			t.Errorf("%d bytes: %x", n, got)
		}
	}
	w.Num(1, 1)
	if got := w.Bytes(); string(got) != "ahead\x01" {
		t.Errorf("behind them: %x", got)
	}
}

// Promise 2.1: a text has its length ahead, in four bytes.
func TestWriterText(t *testing.T) {
	for _, n := range []int{0, 1, 40, 255, 256, 1<<16 + 3, 1 << 24} {
		text := bytes.Repeat([]byte{7, 9, 11}, n/3+1)[:n]
		var w Writer
		w.Text(text)
		want := append(binary.BigEndian.AppendUint32(nil, uint32(n)), text...)
		if !bytes.Equal(w.Bytes(), want) {
			t.Errorf("text of %d bytes", n)
		}
	}
	var w Writer
	w.Text(nil)
	if got := w.Bytes(); !bytes.Equal(got, make([]byte, 4)) {
		t.Errorf("nil: %x", got)
	}
}

// Promise 2.1: raw bytes stand as they are, all one behind the other.
func TestWriterOneBehindTheOther(t *testing.T) {
	var w Writer
	w.Raw([]byte("xy"))
	w.Raw(nil)
	w.Num(3, 1)
	w.Text([]byte("ab"))
	w.Raw([]byte{})
	w.Raw([]byte{255})
	if got, want := w.Bytes(), []byte("xy\x03\x00\x00\x00\x02ab\xff"); !bytes.Equal(got, want) {
		t.Errorf("%x, want %x", got, want)
	}
}

// Promise 2.1: what is answered is a copy, and what was handed in isn't kept.
func TestWriterSharesNothing(t *testing.T) {
	var w Writer
	raw, text := []byte("raw"), []byte("text")
	w.Raw(raw)
	clear(raw)
	w.Text(text)
	clear(text)
	const want = "raw\x00\x00\x00\x04text"
	first := w.Bytes()
	if string(first) != want {
		t.Fatalf("what was handed in is kept: %q", first)
	}
	second := w.Bytes()
	clear(first[:cap(first)])
	if string(second) != want {
		t.Error("two answers share bytes")
	}
	if got := w.Bytes(); string(got) != want {
		t.Error("the Writer shares its answer's bytes")
	}
	_ = append(second, "more"...)
	w.Num(1, 1)
	if got := w.Bytes(); string(got) != want+"\x01" {
		t.Errorf("after an append to the answer: %q", got)
	}
	if string(second) != want {
		t.Error("the answer has changed with the Writer")
	}
}

// Promise 2.1: what is asked of one Writer hangs on the calls on it alone, not on those on its copies.
func TestWriterCopied(t *testing.T) {
	var w Writer
	w.Raw([]byte("both"))
	for range 20 { // with and without room behind the bytes
		before := string(w.Bytes())
		c := w
		d := w
		w.Num('w', 1)
		c.Num('c', 1)
		if got := d.Bytes(); string(got) != before {
			t.Fatalf("a copy that nothing was written to: %q", got)
		}
		d.Text([]byte("d"))
		if got := w.Bytes(); string(got) != before+"w" {
			t.Fatalf("first: %q", got)
		}
		if got := c.Bytes(); string(got) != before+"c" {
			t.Fatalf("copy: %q", got)
		}
		if got := d.Bytes(); string(got) != before+"\x00\x00\x00\x01d" {
			t.Fatalf("later copy: %q", got)
		}
	}
}

// Promise 2.1: a nil Writer does nothing.
func TestWriterNil(t *testing.T) {
	var w *Writer
	w.Num(1, 1)
	w.Num(1, 99)
	w.Text([]byte("a"))
	w.Raw([]byte("a"))
	if b := w.Bytes(); len(b) != 0 {
		t.Errorf("%x", b)
	}
}

// good holds that the Reader isn't wrong, and has so many bytes left.
func good(t *testing.T, r *Reader, left int) {
	t.Helper()
	if got := r.Left(); got != left {
		t.Errorf("%d left, want %d", got, left)
	}
	want := api.OK
	if left > 0 {
		want = api.ErrBad
	}
	if got := r.End(); got != want {
		t.Errorf("End with %d left: %d, want %d", left, got, want)
	}
}

// wrong holds that the Reader is wrong, and stays so whatever it is asked.
func wrong(t *testing.T, r *Reader) {
	t.Helper()
	for range 2 {
		if got := r.End(); got != api.ErrBad {
			t.Errorf("End: %d", got)
		}
		if got := r.Left(); got != 0 {
			t.Errorf("Left: %d", got)
		}
		for n := -1; n <= 9; n++ {
			if got := r.Num(n); got != 0 {
				t.Errorf("Num(%d): %d", n, got)
			}
			if got := r.Raw(n); len(got) != 0 {
				t.Errorf("Raw(%d): %x", n, got)
			}
			if got := r.Text(n); len(got) != 0 {
				t.Errorf("Text(%d): %x", n, got)
			}
		}
	}
	if got := r.End(); got != api.ErrBad {
		t.Errorf("End at last: %d", got)
	}
}

// Promise 2.2: numbers of 1 to 8 bytes.
func TestReaderNum(t *testing.T) {
	b := []byte{1, 2, 3, 4, 5, 6, 7, 8}
	var want uint64
	for n := 1; n <= 8; n++ {
		want = want<<8 | uint64(n)
		r := New(b)
		if got := r.Num(n); got != want {
			t.Errorf("Num(%d): %x, want %x", n, got, want)
		}
		good(t, r, 8-n)
	}
	r := New([]byte{0, 1, 255, 255, 2})
	if r.Num(2) != 1 || r.Num(2) != 65535 || r.Num(1) != 2 {
		t.Error("one behind the other")
	}
	good(t, r, 0)
	if got := New(bytes.Repeat([]byte{255}, 8)).Num(8); got != math.MaxUint64 {
		t.Errorf("the greatest: %x", got)
	}
}

// Promise 2.2: as many bytes as no number has, or more than are left.
func TestReaderNumWrong(t *testing.T) {
	for _, n := range []int{0, -1, 9, 10, 256 + 1, math.MaxInt, math.MinInt} {
		r := New(make([]byte, 600))
		if got := r.Num(n); got != 0 {
			t.Errorf("Num(%d): %d", n, got)
		}
		wrong(t, r)
	}
	for n := 1; n <= 8; n++ {
		r := New(bytes.Repeat([]byte{9}, n-1))
		if got := r.Num(n); got != 0 {
			t.Errorf("Num(%d) of one less: %d", n, got)
		}
		wrong(t, r)
	}
}

// Promise 2.2: a text of at most most bytes.
func TestReaderText(t *testing.T) {
	b := []byte("\x00\x00\x00\x03abcrest")
	for _, most := range []int{3, 4, 1 << 20, math.MaxInt} {
		r := New(b)
		if got := r.Text(most); string(got) != "abc" {
			t.Errorf("most %d: %q", most, got)
		}
		good(t, r, 4)
		if got := r.Raw(4); string(got) != "rest" {
			t.Errorf("behind it: %q", got)
		}
		good(t, r, 0)
	}
	for _, most := range []int{2, 1, 0, -1, math.MinInt} {
		r := New(b)
		if got := r.Text(most); len(got) != 0 {
			t.Errorf("most %d: %q", most, got)
		}
		wrong(t, r)
	}
	for _, most := range []int{5, 0, -1, math.MinInt} { // below 0 is as 0: the empty text is no longer than that
		r := New([]byte{0, 0, 0, 0, 1})
		if got := r.Text(most); len(got) != 0 {
			t.Errorf("empty, most %d: %q", most, got)
		}
		good(t, r, 1)
	}
}

// Promise 2.2: a text of which not all is there.
func TestReaderTextCut(t *testing.T) {
	for _, b := range []string{
		"", "\x00", "\x00\x00\x00", "\x00\x00\x00\x01", "\x00\x00\x00\x04abc",
		"\x00\x01\x00\x00abc", "\x80\x00\x00\x00abc", "\xff\xff\xff\xffabc", "\xff\xff\xff\xff",
	} {
		for _, most := range []int{0, 4, math.MaxInt32, math.MaxInt} {
			r := New([]byte(b))
			if got := r.Text(most); len(got) != 0 {
				t.Errorf("%q: %q", b, got)
			}
			wrong(t, r)
		}
	}
}

// Promise 2.2: n bytes, n from 0 on.
func TestReaderRaw(t *testing.T) {
	r := New([]byte("abcdef"))
	if got := r.Raw(0); len(got) != 0 {
		t.Errorf("none: %q", got)
	}
	good(t, r, 6)
	if got := r.Raw(2); string(got) != "ab" {
		t.Errorf("two: %q", got)
	}
	good(t, r, 4)
	if got := r.Raw(4); string(got) != "cdef" {
		t.Errorf("the rest: %q", got)
	}
	good(t, r, 0)
	if got := r.Raw(0); len(got) != 0 {
		t.Errorf("none at the end: %q", got)
	}
	good(t, r, 0)
	for _, n := range []int{-1, 7, math.MaxInt, math.MinInt} {
		r := New([]byte("abcdef"))
		if got := r.Raw(n); len(got) != 0 {
			t.Errorf("Raw(%d): %q", n, got)
		}
		wrong(t, r)
	}
}

// Promise 2.2: no bytes at all are read to their end at once.
func TestReaderOfNothing(t *testing.T) {
	good(t, New(nil), 0)
	good(t, New([]byte{}), 0)
	good(t, &Reader{}, 0)
}

// Promise 2.2: asking for the end changes nothing.
func TestReaderEndAhead(t *testing.T) {
	r := New([]byte{4, 5})
	good(t, r, 2)
	good(t, r, 2)
	if r.Num(1) != 4 || r.Num(1) != 5 {
		t.Error("after End")
	}
	good(t, r, 0)
}

// Promise 2.2: what was read well stays well when the Reader is wrong later.
func TestReaderWrongLater(t *testing.T) {
	r := New([]byte("abc"))
	ahead := r.Raw(2)
	if r.Num(2) != 0 || string(ahead) != "ab" {
		t.Errorf("%q", ahead)
	}
	wrong(t, r)
}

// Promise 2.2: what was handed in isn't kept, and answers share nothing.
func TestReaderSharesNothing(t *testing.T) {
	b := []byte("\x00\x00\x00\x02abcdefgh")
	r := New(b)
	clear(b)
	text := r.Text(2)
	raw := r.Raw(3)
	clear(text[:cap(text)])
	if string(raw) != "cde" {
		t.Errorf("raw: %q", raw)
	}
	_ = append(raw, "XYZ"...)
	if got := r.Raw(3); string(got) != "fgh" {
		t.Errorf("the rest: %q", got)
	}
	good(t, r, 0)
}

// Promise 2.2: a copy of a Reader reads by itself.
func TestReaderCopied(t *testing.T) {
	r := New([]byte("abc"))
	c := *r
	if got := r.Raw(4); len(got) != 0 {
		t.Errorf("%q", got)
	}
	if got := c.Raw(3); string(got) != "abc" {
		t.Errorf("%q", got)
	}
	good(t, &c, 0)
	wrong(t, r)
}

// Promise 2.2: a nil Reader is wrong.
func TestReaderNil(t *testing.T) {
	wrong(t, nil)
}

// part is one thing that is written and read again.
type part struct {
	kind, size int
	num        uint64
	text       []byte
}

func randomPart(chance *rand.Rand) part {
	p := part{kind: chance.Intn(3), size: 1 + chance.Intn(8), text: make([]byte, chance.Intn(70))}
	p.num = chance.Uint64() >> (64 - 8*p.size)
	chance.Read(p.text)
	return p
}

func (p part) write(w *Writer) {
	switch p.kind {
	case 0:
		w.Num(p.num, p.size)
	case 1:
		w.Text(p.text)
	default:
		w.Raw(p.text)
	}
}

func (p part) read(r *Reader) bool {
	switch p.kind {
	case 0:
		return r.Num(p.size) == p.num
	case 1:
		return bytes.Equal(r.Text(len(p.text)), p.text)
	default:
		return bytes.Equal(r.Raw(len(p.text)), p.text)
	}
}

// Promise 2.3: what was written is read, and with one byte less it is wrong.
func TestWrittenIsRead(t *testing.T) {
	chance := rand.New(rand.NewSource(2))
	for range 2000 {
		var w Writer
		var parts []part
		for range chance.Intn(12) {
			p := randomPart(chance)
			p.write(&w)
			parts = append(parts, p)
		}
		b := w.Bytes()
		r := New(b)
		for i, p := range parts {
			if !p.read(r) {
				t.Fatalf("part %d of %v", i, parts)
			}
		}
		good(t, r, 0)
		if len(b) == 0 {
			continue
		}
		short := New(b[:len(b)-1])
		for _, p := range parts {
			p.read(short)
		}
		wrong(t, short)
		long := New(slices.Concat(b, []byte{0}))
		for _, p := range parts {
			p.read(long)
		}
		good(t, long, 1)
	}
}
