package genesis

import (
	"crypto/sha256"
	"encoding/binary"

	"chirograph/api"
	"chirograph/state"
)

// What follows is chapter 10 once more, as plainly as can be, by its own numbers and the library's: what the tests hold the package against.

func plainForm(key []byte) bool {
	if len(key) != 56 || binary.BigEndian.Uint32(key) != 5 {
		return false
	}
	ots := binary.BigEndian.Uint32(key[4:])
	return ots == 1 || ots == 2 || ots == 3 || ots == 4
}

func plainMay(g api.Genesis) bool {
	keys, ok := map[int]int{0: 1, 1: 4, 2: 7}[g.F]
	if !ok || len(g.Keys) != keys || g.Read < 0 || g.Read > 15 || g.Write < 0 || g.Write > 15 {
		return false
	}
	for _, key := range g.Keys {
		if !plainForm(key) {
			return false
		}
	}
	if len(g.Start) == 0 {
		return true
	}
	s, e := state.Get(g.Start)
	return e == api.OK && s.Read == g.Read && s.Write == g.Write
}

// plainPut writes each genesis, whether it may be or not.
func plainPut(g api.Genesis) []byte {
	b := []byte{byte(g.F), byte(g.Read), byte(g.Write)}
	for _, key := range g.Keys {
		b = append(b, key...)
	}
	b = binary.BigEndian.AppendUint32(b, uint32(len(g.Start)))
	return append(b, g.Start...)
}

// plainGet tells, too, whether the bytes are such as are made of a genesis that may be.
func plainGet(b []byte) (api.Genesis, bool) {
	if len(b) < 3 || b[0] > 2 {
		return api.Genesis{}, false
	}
	start := 3 + 56*(3*int(b[0])+1)
	if len(b) < start+4 || uint64(len(b)) != uint64(start)+4+uint64(binary.BigEndian.Uint32(b[start:])) {
		return api.Genesis{}, false
	}
	g := api.Genesis{F: int(b[0]), Read: int(b[1]), Write: int(b[2]), Start: b[start+4:]}
	for at := 3; at < start; at += 56 {
		g.Keys = append(g.Keys, b[at:at+56])
	}
	if !plainMay(g) {
		return api.Genesis{}, false
	}
	return g, true
}

// plainStart are the bytes of the space that a genesis begins with.
func plainStart(g api.Genesis) []byte {
	if len(g.Start) > 0 {
		return g.Start
	}
	b := append(make([]byte, 8), byte(g.Read), byte(g.Write))
	return append(b, make([]byte, 1+1+4*10)...)
}

func plainFirst(g api.Genesis) api.Space {
	if !plainMay(g) {
		return api.Space{}
	}
	if len(g.Start) > 0 {
		s, _ := state.Get(g.Start)
		return s
	}
	s := api.Space{Read: g.Read, Write: g.Write}
	for c := 0; c < 4; c++ {
		s.Last[c].Client = c
	}
	return s
}

func plainAnchor(g api.Genesis) api.Hash {
	if !plainMay(g) {
		return api.Hash{}
	}
	return sha256.Sum256(append([]byte("GENE"), plainPut(g)...))
}

func plainLink(g api.Genesis) api.Hash {
	if !plainMay(g) {
		return api.Hash{}
	}
	anchor := plainAnchor(g)
	digest := sha256.Sum256(append([]byte("STAT"), plainStart(g)...))
	return sha256.Sum256([]byte("LINK" + string(anchor[:]) + string(digest[:])))
}
