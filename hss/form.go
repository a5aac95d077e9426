package hss

import (
	"chirograph/api"
	"chirograph/lms"
	"chirograph/pack"
)

const mostLevels = 2

const (
	levelSize   = 4 // bytes of a number of levels
	typeSize    = 4 // bytes of a typecode
	nameSize    = 16
	treeKeySize = 2*typeSize + nameSize + len(api.Hash{})
	keySize     = levelSize + treeKeySize
)

// publicKey is what stands in a public key's bytes.
type publicKey struct {
	levels int
	upper  []byte // the upper tree's key
}

// readKey tells whether pub has a public key's form. The length comes first, so that what is cut isn't read.
func readKey(pub []byte) (publicKey, bool) {
	if len(pub) != keySize {
		return publicKey{}, false
	}
	r := pack.New(pub)
	k := publicKey{int(r.Num(levelSize)), r.Raw(treeKeySize)}
	if Many(k.levels) == 0 || !lms.Form(k.upper) {
		return publicKey{}, false
	}
	return k, true
}

// partSize is how many bytes one tree's signature has. The OTS's typecodes, from 1 on, are of widths that are each twice the one ahead.
func (k publicKey) partSize() int {
	r := pack.New(k.upper)
	r.Num(typeSize)
	return lms.Size(1 << (r.Num(typeSize) - 1))
}

// holds tells whether sig leads, tree by tree, from the upper tree's key to msg. All trees have one width: a lower key of another one finds no signature of its own length.
func (k publicKey) holds(msg, sig []byte) bool {
	part := k.partSize()
	if len(sig) != levelSize+k.levels*part+(k.levels-1)*treeKeySize {
		return false
	}
	r := pack.New(sig)
	if r.Num(levelSize) != uint64(k.levels-1) {
		return false
	}
	key := k.upper
	for range k.levels - 1 {
		one, lower := r.Raw(part), r.Raw(treeKeySize)
		if !lms.Form(lower) || lms.Verify(key, lower, one) != api.OK {
			return false
		}
		key = lower
	}
	return lms.Verify(key, msg, r.Raw(part)) == api.OK
}
