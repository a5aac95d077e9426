package lms

import (
	"slices"

	"chirograph/api"
	"chirograph/ots"
	"chirograph/pack"
)

const treeType = 5 // LMS_SHA256_M32_H5

const (
	typeSize = 4 // bytes of a typecode
	leafSize = 4 // bytes of a leaf's number
	nameSize = 16
	hashSize = len(api.Hash{})
	keySize  = 2*typeSize + nameSize + hashSize
)

// typeOf is the OTS's typecode, which counts its widths from 1 on; 0 of other widths.
func typeOf(w int) uint64 { return uint64(slices.Index(ots.Types(), w) + 1) }

// widthOf is the width that has that typecode; 0 of other typecodes.
func widthOf(code uint64) int {
	widths := ots.Types()
	if code < 1 || code > uint64(len(widths)) {
		return 0
	}
	return widths[code-1]
}

// otsSize is how many bytes the OTS's signature has.
func otsSize(w int) int { return typeSize + hashSize*(1+ots.Chains(w)) }

// publicKey is what stands in a public key's bytes.
type publicKey struct {
	width int
	i     [nameSize]byte
	root  api.Hash
}

// readKey tells whether pub has a public key's form. The length comes first, so that what is cut isn't read.
func readKey(pub []byte) (publicKey, bool) {
	if len(pub) != keySize {
		return publicKey{}, false
	}
	r := pack.New(pub)
	code, width := r.Num(typeSize), widthOf(r.Num(typeSize))
	if code != treeType || width == 0 {
		return publicKey{}, false
	}
	return publicKey{width, [nameSize]byte(r.Raw(nameSize)), api.Hash(r.Raw(hashSize))}, true
}

// candidate is RFC 8554's Tc of algorithm 6a: the root to which sig leads, if sig is of the form that the key asks for.
func (k publicKey) candidate(msg, sig []byte) (api.Hash, bool) {
	if len(sig) != Size(k.width) {
		return api.Hash{}, false
	}
	r := pack.New(sig)
	q, leaf, code := r.Num(leafSize), r.Raw(otsSize(k.width)), r.Num(typeSize)
	if q >= api.Leaves || code != treeType {
		return api.Hash{}, false
	}
	key, e := ots.Candidate(k.i, int(q), k.width, msg, leaf) // who holds the OTS's typecode against the key's
	if e != api.OK {
		return api.Hash{}, false
	}
	return k.climbed(api.Leaves+int(q), key, r), true
}

// climbed goes from a leaf up to the root, with the path that r is at.
func (k publicKey) climbed(at int, key api.Hash, r *pack.Reader) api.Hash {
	x := leafNode(k.i, at, key)
	for ; at > 1; at /= 2 {
		beside := api.Hash(r.Raw(hashSize))
		if at%2 == 1 {
			x = innerNode(k.i, at/2, beside, x)
		} else {
			x = innerNode(k.i, at/2, x, beside)
		}
	}
	return x
}
