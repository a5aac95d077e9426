package pack

import "chirograph/api"

// Reader is chapter 2's. Its zero value has no bytes to read.
type Reader struct {
	left  []byte
	wrong bool
}

// New is chapter 2's.
func New(b []byte) *Reader {
	return &Reader{left: append([]byte(nil), b...)}
}

// Num is chapter 2's.
func (r *Reader) Num(bytes int) uint64 {
	if !wide(bytes) {
		r.fail()
		return 0
	}
	piece := r.take(bytes)
	var v uint64
	for i := range len(piece) {
		v = v<<8 | uint64(piece[i])
	}
	return v
}

// Text is chapter 2's.
func (r *Reader) Text(most int) []byte {
	size := r.Num(lengthSize)
	if size > uint64(max(most, 0)) || size > uint64(r.Left()) { // held as uint64: a length may be more than an int is
		r.fail()
		return nil
	}
	return r.Raw(int(size))
}

// Raw is chapter 2's.
func (r *Reader) Raw(n int) []byte {
	return append([]byte(nil), r.take(n)...)
}

// Left is chapter 2's.
func (r *Reader) Left() int {
	if r == nil {
		return 0
	}
	return len(r.left)
}

// End is chapter 2's.
func (r *Reader) End() int {
	if r == nil || r.wrong || len(r.left) > 0 {
		return api.ErrBad
	}
	return api.OK
}

// take goes n bytes on and gives them, still the Reader's own.
func (r *Reader) take(n int) []byte {
	if n < 0 || n > r.Left() {
		r.fail()
		return nil
	}
	if r == nil {
		return nil
	}
	piece := r.left[:n]
	r.left = r.left[n:]
	return piece
}

// fail leaves nothing to read, so that all that is asked from now on finds nothing.
func (r *Reader) fail() {
	if r != nil {
		*r = Reader{wrong: true}
	}
}
