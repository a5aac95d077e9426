package hss

import (
	"crypto/sha256"
	"encoding/binary"
	"testing"

	"chirograph/api"
	"chirograph/lms"
)

// What follows is chapter 5 once more, as plainly as can be, over package lms and the library's SHA-256: what the tests hold the package against.

// plainKind: w, its typecode, how many bytes a tree's signature has.
type plainKind struct{ w, code, part int }

var plainKinds = []plainKind{{1, 1, 8684}, {2, 2, 4460}, {4, 3, 2348}, {8, 4, 1292}}

// size is how many bytes a signature of so many levels has.
func (k plainKind) size(levels int) int {
	if levels == 1 {
		return 4 + k.part
	}
	return 4 + k.part + 56 + k.part
}

func plainHash(parts ...[]byte) api.Hash {
	var all []byte
	for _, p := range parts {
		all = append(all, p...)
	}
	return sha256.Sum256(all)
}

func plain32(n int) []byte { return binary.BigEndian.AppendUint32(nil, uint32(n)) }

func plainChild(s api.Secret, q int) api.Secret {
	name := plainHash(s.I[:], plain32(q), []byte{0xff, 0xff, 0xff}, s.Seed[:])
	return api.Secret{I: [16]byte(name[:16]), Seed: plainHash(s.I[:], plain32(q), []byte{0xff, 0xfe, 0xff}, s.Seed[:])}
}

func plainTree(t *testing.T, s api.Secret, w int) *lms.Tree {
	t.Helper()
	x, e := lms.New(s, w)
	if e != api.OK {
		t.Fatalf("a tree of w %d: error %d", w, e)
	}
	return x
}

func plainPart(t *testing.T, x *lms.Tree, q int, text []byte) []byte {
	t.Helper()
	sig, e := x.Sign(q, text)
	if e != api.OK {
		t.Fatalf("a tree's signature of leaf %d: error %d", q, e)
	}
	return sig
}

// joined puts pieces one behind the other.
func joined(parts ...[]byte) []byte {
	var all []byte
	for _, p := range parts {
		all = append(all, p...)
	}
	return all
}

// plainPair is a key of two levels: the upper tree, and the lower ones that were asked for.
type plainPair struct {
	s     api.Secret
	w     int
	upper *lms.Tree
	lower map[int]*lms.Tree
}

func plainOf(t *testing.T, s api.Secret, w int) *plainPair {
	t.Helper()
	return &plainPair{s, w, plainTree(t, s, w), map[int]*lms.Tree{}}
}

func (p *plainPair) below(t *testing.T, q int) *lms.Tree {
	t.Helper()
	if p.lower[q] == nil {
		p.lower[q] = plainTree(t, plainChild(p.s, q), p.w)
	}
	return p.lower[q]
}

func (p *plainPair) sign(t *testing.T, levels, n int, msg []byte) []byte {
	t.Helper()
	if levels == 1 {
		return joined(plain32(0), plainPart(t, p.upper, n, msg))
	}
	lower := p.below(t, n/32)
	return joined(plain32(1), plainPart(t, p.upper, n/32, lower.Public()), lower.Public(), plainPart(t, lower, n%32, msg))
}
