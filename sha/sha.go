// Package sha is SHA-256: see DOC.md, chapter 1.
package sha

import (
	"chirograph/api"
)

const (
	blockSize = 64
	lengthAt  = 56 // where the length stands in the last block
)

// Digest is chapter 1's. Its zero value has taken no bytes, as one of New.
type Digest struct {
	state [8]uint32
	rest  [blockSize]byte // bytes that fill no block yet
	size  uint64
}

// Sum is chapter 1's.
func Sum(b []byte) api.Hash {
	var d Digest
	d.Write(b)
	return finish(d)
}

// New is chapter 1's.
func New() *Digest { return &Digest{} }

// Write is chapter 1's.
func (d *Digest) Write(b []byte) {
	if d == nil {
		return
	}
	d.begin()
	at := int(d.size % blockSize)
	d.size += uint64(len(b))
	for len(b) > 0 {
		n := copy(d.rest[at:], b)
		b = b[n:]
		at += n
		if at == blockSize {
			d.state = mixed(d.state, &d.rest)
			at = 0
		}
	}
}

// Sum is chapter 1's.
func (d *Digest) Sum() api.Hash {
	if d == nil {
		return Sum(nil)
	}
	return finish(*d)
}

// Copy is chapter 1's.
func (d *Digest) Copy() *Digest {
	if d == nil {
		return nil
	}
	c := *d
	return &c
}

// Hex is chapter 1's.
func Hex(h api.Hash) string {
	const digits = "0123456789abcdef"
	var text [2 * len(h)]byte
	for i, b := range h {
		text[2*i] = digits[b>>4]
		text[2*i+1] = digits[b&15]
	}
	return string(text[:])
}

// begin sets the state where nothing was written yet, so that a Digest that New did not make works too.
func (d *Digest) begin() {
	if d.size == 0 {
		d.state = initial()
	}
}

// finish takes its Digest as a value: more may be written behind the caller's own.
func finish(d Digest) api.Hash {
	d.begin()
	at := int(d.size % blockSize)
	d.rest[at] = 0x80
	clear(d.rest[at+1:])
	if at >= lengthAt { // no room for the length: it goes into a block more
		d.state = mixed(d.state, &d.rest)
		clear(d.rest[:])
	}
	bits := d.size << 3
	for i := range blockSize - lengthAt {
		d.rest[lengthAt+i] = byte(bits >> (56 - 8*i))
	}
	d.state = mixed(d.state, &d.rest)
	return d.hash()
}

func (d *Digest) hash() api.Hash {
	var h api.Hash
	for i, v := range d.state {
		h[4*i] = byte(v >> 24)
		h[4*i+1] = byte(v >> 16)
		h[4*i+2] = byte(v >> 8)
		h[4*i+3] = byte(v)
	}
	return h
}
