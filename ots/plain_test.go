package ots

import (
	"crypto/sha256"
	"encoding/binary"
	"math/big"

	"chirograph/api"
)

// What follows is RFC 8554 once more, as plainly as can be, by the library's SHA-256: what the tests hold the package against.

// plainKind: w, its typecode, p, ls.
type plainKind struct{ w, code, p, ls int }

var plainKinds = []plainKind{{1, 1, 265, 7}, {2, 2, 133, 6}, {4, 3, 67, 4}, {8, 4, 34, 0}}

func (k plainKind) size() int { return 4 + 32 + 32*k.p }

func plainHash(parts ...[]byte) api.Hash {
	var all []byte
	for _, p := range parts {
		all = append(all, p...)
	}
	return sha256.Sum256(all)
}

func plain16(n int) []byte { return binary.BigEndian.AppendUint16(nil, uint16(n)) }
func plain32(n int) []byte { return binary.BigEndian.AppendUint32(nil, uint32(n)) }

// plainDigits cuts h as one great number, from its lowest bits on, and its checksum as another.
func plainDigits(k plainKind, h api.Hash) []int {
	base := big.NewInt(1 << k.w)
	cut := func(v *big.Int, n int) []int {
		out := make([]int, n)
		rest := new(big.Int).Set(v)
		digit := new(big.Int)
		for i := n - 1; i >= 0; i-- {
			rest.DivMod(rest, base, digit)
			out[i] = int(digit.Int64())
		}
		return out
	}
	out := cut(new(big.Int).SetBytes(h[:]), 256/k.w)
	sum := 0
	for _, d := range out {
		sum += 1<<k.w - 1 - d
	}
	return append(out, cut(big.NewInt(int64(sum)), k.p-256/k.w)...)
}

func plainStep(s api.Secret, q, chain, step int, x api.Hash) api.Hash {
	return plainHash(s.I[:], plain32(q), plain16(chain), []byte{byte(step)}, x[:])
}

func plainWalk(s api.Secret, q, chain, from, to int, x api.Hash) api.Hash {
	for step := from; step < to; step++ {
		x = plainStep(s, q, chain, step, x)
	}
	return x
}

func plainPublic(s api.Secret, q int, k plainKind) api.Hash {
	all := append(append([]byte(nil), s.I[:]...), plain32(q)...)
	all = append(all, 0x80, 0x80)
	for chain := range k.p {
		end := plainWalk(s, q, chain, 0, 1<<k.w-1, plainStep(s, q, chain, 0xff, s.Seed))
		all = append(all, end[:]...)
	}
	return plainHash(all)
}

func plainSign(s api.Secret, q int, k plainKind, msg []byte) []byte {
	c := plainStep(s, q, 0xfffd, 0xff, s.Seed)
	digits := plainDigits(k, plainHash(s.I[:], plain32(q), []byte{0x81, 0x81}, c[:], msg))
	out := append(plain32(k.code), c[:]...)
	for chain, digit := range digits {
		x := plainWalk(s, q, chain, 0, digit, plainStep(s, q, chain, 0xff, s.Seed))
		out = append(out, x[:]...)
	}
	return out
}
