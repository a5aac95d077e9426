package cert

import (
	"crypto/sha256"
	"encoding/binary"

	"chirograph/api"
	"chirograph/genesis"
	"chirograph/lms"
)

// What follows is chapter 14 once more, as plainly as can be, by its own numbers, chapter 13's and the library's: what the tests hold the package against.

func plainText(anchor api.Hash, place int, link api.Hash) []byte {
	number := binary.BigEndian.AppendUint32(nil, uint32(place))
	return []byte("VOTE" + string(anchor[:]) + string(number) + string(link[:]))
}

// plainAnchor is that of a genesis that may be.
func plainAnchor(g api.Genesis) api.Hash {
	b, _ := genesis.Put(g)
	return sha256.Sum256([]byte("GENE" + string(b)))
}

// plainVote tells whether a vote is for that place and link, and checks, in a genesis that may be.
func plainVote(g api.Genesis, place int, link api.Hash, v api.Vote) bool {
	if v.Place != place || v.Link != link {
		return false
	}
	for n, key := range g.Keys {
		if n == v.From {
			return lms.Verify(key, plainText(plainAnchor(g), place, link), v.Sig) == 0
		}
	}
	return false
}

func plainNeed(g api.Genesis) int {
	switch {
	case !genesis.May(g):
		return 0
	case g.F == 0:
		return 1
	case g.F == 1:
		return 3
	}
	return 5
}

func plainCheck(g api.Genesis, place int, link api.Hash, l []api.Vote) int {
	if plainNeed(g) == 0 || place <= 0 || place > 1048576 {
		return 1
	}
	if len(l) != plainNeed(g) {
		return 3
	}
	for n := range l {
		for m := range n {
			if l[m].From >= l[n].From {
				return 3
			}
		}
		if !plainVote(g, place, link, l[n]) {
			return 3
		}
	}
	return 0
}

func plainPick(g api.Genesis, place int, link api.Hash, l []api.Vote) ([]api.Vote, int) {
	if plainNeed(g) == 0 || place <= 0 || place > 1048576 {
		return nil, 1
	}
	var picked []api.Vote
	for from := 0; from <= 6; from++ {
		for _, v := range l {
			if v.From == from && plainVote(g, place, link, v) {
				picked = append(picked, v)
				break
			}
		}
		if len(picked) == plainNeed(g) {
			return picked, 0
		}
	}
	return nil, 3
}

func plainMayPut(l []api.Vote) bool {
	for _, v := range l {
		if v.Place < 0 || v.Place > 1048576 || v.From < 0 || v.From > 6 || len(v.Sig) > 9000 {
			return false
		}
	}
	return len(l) <= 7
}

// plainPut writes any votes, whether they may be put or not.
func plainPut(l []api.Vote) []byte {
	b := []byte{byte(len(l))}
	for _, v := range l {
		b = binary.BigEndian.AppendUint32(b, uint32(4+1+32+4+len(v.Sig)))
		b = binary.BigEndian.AppendUint32(b, uint32(v.Place))
		b = append(b, byte(v.From))
		b = append(b, v.Link[:]...)
		b = binary.BigEndian.AppendUint32(b, uint32(len(v.Sig)))
		b = append(b, v.Sig...)
	}
	return b
}

// plainGet tells, too, whether the bytes are such as are made of votes that may be put.
func plainGet(b []byte) ([]api.Vote, bool) {
	if len(b) == 0 {
		return nil, false
	}
	var l []api.Vote
	many, b := int(b[0]), b[1:]
	for range many {
		if len(b) < 45 {
			return nil, false
		}
		size, sig := uint64(binary.BigEndian.Uint32(b)), uint64(binary.BigEndian.Uint32(b[41:]))
		if size != 41+sig || uint64(len(b)) < 4+size {
			return nil, false
		}
		l = append(l, api.Vote{Place: int(binary.BigEndian.Uint32(b[4:])), From: int(b[8]), Link: api.Hash(b[9:41]), Sig: b[45 : 45+sig]})
		b = b[4+size:]
	}
	if len(b) > 0 || !plainMayPut(l) {
		return nil, false
	}
	return l, true
}
