package link

import (
	"crypto/sha256"

	"chirograph/api"
	"chirograph/entry"
	"chirograph/genesis"
	"chirograph/space"
	"chirograph/state"
)

// What follows is chapter 12 once more, as plainly as can be, by its own numbers and the library's digest: what the tests hold the package against.

func plainNext(ahead, sum, digest api.Hash) api.Hash {
	return sha256.Sum256([]byte("NEXT" + string(ahead[:]) + string(sum[:]) + string(digest[:])))
}

func plainSum(b []byte) api.Hash { return sha256.Sum256([]byte("ENTR" + string(b))) }

// plainDigest is that of a space that may be.
func plainDigest(s api.Space) api.Hash {
	b, _ := state.Put(s)
	return sha256.Sum256([]byte("STAT" + string(b)))
}

func plainStep(ahead api.Hash, s api.Space, b []byte) (api.Hash, api.Space, []api.Reply, int) {
	e, fault := entry.Get(b)
	if fault != 0 {
		return api.Hash{}, api.Space{}, nil, 2
	}
	if !space.May(s) {
		return api.Hash{}, api.Space{}, nil, 1
	}
	if e.Now < s.Now {
		return api.Hash{}, api.Space{}, nil, 7
	}
	var all []api.Reply
	for n := 0; n < len(e.List); n++ {
		behind, replies := space.Do(s, e.Now, e.List[n])
		s = behind
		all = append(all, replies...)
	}
	return plainNext(ahead, plainSum(b), plainDigest(s)), s, all, 0
}

func plainRun(g api.Genesis, l [][]byte) (api.Hash, api.Space, int) {
	if !genesis.May(g) {
		return api.Hash{}, api.Space{}, 1
	}
	links := []api.Hash{genesis.Link(g)}
	spaces := []api.Space{genesis.First(g)}
	for n := 0; n < len(l); n++ {
		h, s, _, fault := plainStep(links[n], spaces[n], l[n])
		if fault != 0 {
			return api.Hash{}, api.Space{}, fault
		}
		links = append(links, h)
		spaces = append(spaces, s)
	}
	return links[len(l)], spaces[len(l)], 0
}

func plainChain(ahead api.Hash, l []api.Step) []api.Hash {
	links := make([]api.Hash, len(l)+1)
	links[0] = ahead
	for n := 0; n < len(l); n++ {
		links[n+1] = plainNext(links[n], plainSum(l[n].Entry), l[n].Digest)
	}
	return links
}
