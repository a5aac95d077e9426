package vote

import (
	"crypto/sha256"
	"encoding/binary"

	"chirograph/api"
	"chirograph/genesis"
	"chirograph/lms"
)

// What follows is chapter 13 once more, as plainly as can be, by its own numbers and the library's: what the tests hold the package against.

func plainText(anchor api.Hash, place int, link api.Hash) []byte {
	number := binary.BigEndian.AppendUint32(nil, uint32(place))
	return []byte("VOTE" + string(anchor[:]) + string(number) + string(link[:]))
}

// plainAnchor is that of a genesis that may be.
func plainAnchor(g api.Genesis) api.Hash {
	b, _ := genesis.Put(g)
	return sha256.Sum256([]byte("GENE" + string(b)))
}

func plainCheck(g api.Genesis, v api.Vote) int {
	if !genesis.May(g) {
		return 1
	}
	key := []byte(nil)
	for n := 0; n < 3*g.F+1; n++ {
		if v.From == n {
			key = g.Keys[n]
		}
	}
	if key == nil || v.Place < 1 || v.Place > 1048576 {
		return 1
	}
	if lms.Verify(key, plainText(plainAnchor(g), v.Place, v.Link), v.Sig) != 0 {
		return 3
	}
	return 0
}

func plainMayPut(v api.Vote) bool {
	return 0 <= v.Place && v.Place <= 1048576 && 0 <= v.From && v.From <= 6 && len(v.Sig) <= 9000
}

// plainPut writes each vote, whether it may be put or not.
func plainPut(v api.Vote) []byte {
	b := binary.BigEndian.AppendUint32(nil, uint32(v.Place))
	b = append(b, byte(v.From))
	b = append(b, v.Link[:]...)
	b = binary.BigEndian.AppendUint32(b, uint32(len(v.Sig)))
	return append(b, v.Sig...)
}

// plainGet tells, too, whether the bytes are such as are made of a vote that may be put.
func plainGet(b []byte) (api.Vote, bool) {
	if len(b) < 41 || uint64(len(b)) != 41+uint64(binary.BigEndian.Uint32(b[37:])) {
		return api.Vote{}, false
	}
	v := api.Vote{Place: int(binary.BigEndian.Uint32(b)), From: int(b[4]), Link: api.Hash(b[5:37]), Sig: b[41:]}
	if !plainMayPut(v) {
		return api.Vote{}, false
	}
	return v, true
}
