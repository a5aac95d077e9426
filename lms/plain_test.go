package lms

import (
	"crypto/sha256"
	"encoding/binary"

	"chirograph/api"
	"chirograph/ots"
)

// What follows is RFC 8554's section 5 once more, as plainly as can be, by the library's SHA-256: what the tests hold the package against.

// plainKind: w, its typecode, how many bytes a signature has.
type plainKind struct{ w, code, size int }

var plainKinds = []plainKind{{1, 1, 8684}, {2, 2, 4460}, {4, 3, 2348}, {8, 4, 1292}}

func plainHash(parts ...[]byte) api.Hash {
	var all []byte
	for _, p := range parts {
		all = append(all, p...)
	}
	return sha256.Sum256(all)
}

func plain32(n int) []byte { return binary.BigEndian.AppendUint32(nil, uint32(n)) }

func plainLeaf(i [16]byte, r int, key api.Hash) api.Hash {
	return plainHash(i[:], plain32(r), []byte{0x82, 0x82}, key[:])
}

func plainInner(i [16]byte, r int, left, right api.Hash) api.Hash {
	return plainHash(i[:], plain32(r), []byte{0x83, 0x83}, left[:], right[:])
}

// plainNodes gives T[1] to T[63], each at its number.
func plainNodes(s api.Secret, w int) [64]api.Hash {
	var t [64]api.Hash
	for r := 63; r >= 32; r-- {
		key, _ := ots.Public(s, r-32, w)
		t[r] = plainLeaf(s.I, r, key)
	}
	for r := 31; r >= 1; r-- {
		t[r] = plainInner(s.I, r, t[2*r], t[2*r+1])
	}
	return t
}

func plainPublic(i [16]byte, code int, root api.Hash) []byte {
	out := append(plain32(5), plain32(code)...)
	out = append(out, i[:]...)
	return append(out, root[:]...)
}

func plainSign(s api.Secret, k plainKind, t [64]api.Hash, q int, msg []byte) []byte {
	one, _ := ots.Sign(s, q, k.w, msg)
	out := append(plain32(q), one...)
	out = append(out, plain32(5)...)
	for i := range 5 { // RFC 8554, section 5.4.1: path[i] = T[(r / 2^i) xor 1]
		beside := t[((32+q)>>i)^1]
		out = append(out, beside[:]...)
	}
	return out
}

// plainRoot is algorithm 6a's Tc, of a signature that is of the form.
func plainRoot(i [16]byte, k plainKind, msg, sig []byte) api.Hash {
	q := int(binary.BigEndian.Uint32(sig))
	path := sig[len(sig)-160:]
	key, _ := ots.Candidate(i, q, k.w, msg, sig[4:len(sig)-164])
	x := plainLeaf(i, 32+q, key)
	for n := range 5 {
		beside, up := api.Hash(path[32*n:32*n+32]), (32+q)>>n
		if up%2 == 1 {
			x = plainInner(i, up/2, beside, x)
		} else {
			x = plainInner(i, up/2, x, beside)
		}
	}
	return x
}
