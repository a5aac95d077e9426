package vote

import (
	"bytes"
	"math/rand"
	"reflect"
	"slices"
	"testing"

	"chirograph/api"
	"chirograph/hss"
	"chirograph/sha"
	"chirograph/space"
	"chirograph/state"
)

// Promise 13.1: votes of all replicas, at the first place, the last one and between.
func TestCheckRight(t *testing.T) {
	for _, g := range houses() {
		for from := range g.Keys {
			for n, place := range []int{1, 2, 257, api.MaxPlace - 1, api.MaxPlace} {
				checked(t, "a vote", g, cast(g, from, n*7, place, hashOf(byte(n))), api.OK)
			}
		}
	}
}

// Promise 13.1: whichever leaf signed it.
func TestCheckOfEachLeaf(t *testing.T) {
	g := house(1)
	for leaf := range api.Leaves {
		checked(t, "a leaf", g, cast(g, leaf%4, leaf, 5, hashOf(9)), api.OK)
	}
}

// Promise 13.1: a link may be any, that of no bytes too.
func TestCheckOfLinks(t *testing.T) {
	g := house(0)
	chance := rand.New(rand.NewSource(142))
	for n, link := range []api.Hash{{}, hashOf(0), hashOf(224), plainAnchor(g), randomHash(chance)} {
		checked(t, "a link", g, cast(g, 0, n, 1+n, link), api.OK)
	}
}

// Promise 13.1: a place that is none, though what was signed is of its text.
func TestCheckArgOfPlaces(t *testing.T) {
	for _, g := range []api.Genesis{house(0), started(1)} {
		for _, place := range edges() {
			right := cast(g, 0, 3, place, hashOf(1))
			unsigned := right
			unsigned.Sig = nil
			if place >= 1 && place <= 1<<20 {
				checked(t, "a place", g, right, api.OK)
				checked(t, "a place, unsigned", g, unsigned, api.ErrSig)
			} else {
				checked(t, "no place", g, right, api.ErrArg)
				checked(t, "no place, unsigned", g, unsigned, api.ErrArg)
			}
		}
	}
}

// Promise 13.1: a From that is none of the keys' numbers.
func TestCheckArgOfFroms(t *testing.T) {
	for f := range 3 {
		g := house(f)
		right := cast(g, 0, 4, 6, hashOf(1))
		for _, from := range append(edges(), 2, 3, 4, 5, 6, 7, 8, 9, 10) {
			v := right
			v.From = from
			switch {
			case from < 0 || from > 3*f:
				checked(t, "no replica", g, v, api.ErrArg)
			case from == 0:
				checked(t, "the one that signed", g, v, api.OK)
			default:
				checked(t, "another replica", g, v, api.ErrSig)
			}
		}
	}
	short := house(1)
	for from := 4; from < 7; from++ { // who would be there, if there were more
		checked(t, "who is not there", short, cast(short, from, 0, 6, hashOf(1)), api.ErrArg)
	}
	checked(t, "who is not there", house(0), cast(house(0), 1, 0, 6, hashOf(1)), api.ErrArg)
}

// wrongTurns make of a started genesis of F 1 one that may not be; the first key stays.
func wrongTurns() map[string]func(g *api.Genesis) {
	return map[string]func(g *api.Genesis){
		"F -1":              func(g *api.Genesis) { g.F = -1 },
		"F 0":               func(g *api.Genesis) { g.F = 0 },
		"F 2":               func(g *api.Genesis) { g.F = 2 },
		"F 3":               func(g *api.Genesis) { g.F, g.Keys = 3, slices.Repeat(g.Keys[:1], 10) },
		"F by 2^32":         func(g *api.Genesis) { g.F += 1 << 32 },
		"Read 16":           func(g *api.Genesis) { g.Read, g.Start = 16, nil },
		"another Read":      func(g *api.Genesis) { g.Read = 14 },
		"Write -1":          func(g *api.Genesis) { g.Write, g.Start = -1, nil },
		"another Write":     func(g *api.Genesis) { g.Write = 14 },
		"a key less":        func(g *api.Genesis) { g.Keys = g.Keys[:3] },
		"a key more":        func(g *api.Genesis) { g.Keys = append(g.Keys, g.Keys[0]) },
		"a key alone":       func(g *api.Genesis) { g.Keys = g.Keys[:1] },
		"the last key, cut": func(g *api.Genesis) { g.Keys[3] = g.Keys[3][:55] },
		"a key's typecode":  func(g *api.Genesis) { g.Keys[2][3] = 6 },
		"Start, cut":        func(g *api.Genesis) { g.Start = g.Start[1:] },
		"Start, longer":     func(g *api.Genesis) { g.Start = append(g.Start, 0) },
	}
}

// Promise 13.1: a genesis that may not be, told ahead of what else is wrong.
func TestCheckArgOfGeneses(t *testing.T) {
	right := cast(started(1), 0, 5, 7, hashOf(1))
	blind := right
	blind.Sig = signed(0, 6, plainText(api.Hash{}, 7, hashOf(1))) // by the anchor that one that may not be has
	for name, turn := range wrongTurns() {
		g := started(1)
		turn(&g)
		checked(t, name, g, right, api.ErrArg)
		checked(t, name+", the zero anchor", g, blind, api.ErrArg)
		checked(t, name+", unsigned", g, api.Vote{Place: 7}, api.ErrArg)
		checked(t, name+", nothing", g, api.Vote{}, api.ErrArg)
	}
	checked(t, "nothing", api.Genesis{}, right, api.ErrArg)
	checked(t, "nothing of nothing", api.Genesis{}, api.Vote{}, api.ErrArg)
	checked(t, "nothing", house(1), api.Vote{}, api.ErrArg)
	checked(t, "the zero anchor", started(1), blind, api.ErrSig)
}

// Promise 13.1: each bit of a link, and another place or replica than was signed.
func TestCheckSigOfTurnedParts(t *testing.T) {
	g := house(1)
	for from := range 4 {
		right := cast(g, from, 8, 9, hashOf(1))
		for bit := range 256 {
			v := right
			v.Link[bit/8] ^= 1 << (bit % 8)
			checked(t, "a link's bit", g, v, api.ErrSig)
		}
		for _, place := range []int{1, 8, 10, 9 + 256, 9 + 65536, 1 << 20} {
			v := right
			v.Place = place
			checked(t, "another place", g, v, api.ErrSig)
		}
		for other := range 4 {
			v := right
			v.From = other
			checked(t, "a replica", g, v, okWhere(other == from))
		}
		checked(t, "as it is", g, right, api.OK)
	}
}

// Promise 13.1: signatures that are cut, longer or turned, and none.
func TestCheckSigOfTurnedSigs(t *testing.T) {
	g := house(1)
	chance := rand.New(rand.NewSource(143))
	for from := range 4 {
		right := cast(g, from, 9, 9, hashOf(1))
		with := func(name string, sig []byte) {
			v := right
			v.Sig = sig
			checked(t, name, g, v, api.ErrSig)
		}
		size := len(right.Sig)
		for at := 0; at < size; at += 1 + min(at/8, 60) {
			other := bytes.Clone(right.Sig)
			other[at] ^= 1 << chance.Intn(8)
			with("a bit", other)
		}
		for _, n := range []int{0, 1, 4, 8, 40, 1292, 2348, 4460, size - 32, size - 1} {
			if n < size {
				with("cut", right.Sig[:n])
				with("cut ahead", right.Sig[size-n:])
			}
		}
		with("nil", nil)
		with("a byte more", append(bytes.Clone(right.Sig), 0))
		with("a byte ahead", append([]byte{0}, right.Sig...))
		with("twice", slices.Repeat(right.Sig, 2))
		with("noughts", make([]byte, size))
		with("longer than may be put", append(bytes.Clone(right.Sig), make([]byte, 9001)...))
		with("a million noughts", make([]byte, 1<<20))
		with("the key", g.Keys[from])
		for n, other := range g.Keys {
			if n != from {
				with("another's, of the same text", signed(n, 9, plainText(plainAnchor(g), 9, hashOf(1))))
				with("another's key", other)
			}
		}
	}
}

// Promise 13.1: what was signed is just the Text.
func TestCheckSigOfOtherTexts(t *testing.T) {
	g := house(1)
	anchor, link, place := plainAnchor(g), hashOf(1), "\x00\x00\x00\x09"
	a, l := string(anchor[:]), string(link[:])
	digest := sha.Sum(plainText(anchor, 9, link))
	for name, text := range map[string]string{
		"nothing":                "",
		"the mark alone":         "VOTE",
		"no mark":                a + place + l,
		"another mark":           "vote" + a + place + l,
		"no anchor":              "VOTE" + place + l,
		"no place":               "VOTE" + a + l,
		"no link":                "VOTE" + a + place,
		"link and anchor turned": "VOTE" + l + place + a,
		"the place behind":       "VOTE" + a + l + place,
		"the place in eight":     "VOTE" + a + "\x00\x00\x00\x00" + place + l,
		"the place in one":       "VOTE" + a + "\x09" + l,
		"the place turned":       "VOTE" + a + "\x09\x00\x00\x00" + l,
		"the From, too":          "VOTE" + a + place + "\x01" + l,
		"a byte more":            "VOTE" + a + place + l + "\x00",
		"a byte less":            "VOTE" + a + place + l[:31],
		"the digest of the text": string(digest[:]),
	} {
		v := api.Vote{Place: 9, From: 1, Link: link, Sig: signed(1, 11, []byte(text))}
		checked(t, name, g, v, api.ErrSig)
	}
	v := api.Vote{Place: 9, From: 1, Link: link, Sig: signed(1, 11, []byte("VOTE"+a+place+l))}
	checked(t, "the Text", g, v, api.OK)
}

// Promise 13.1: a signature by a tree of trees is none of a tree's.
func TestCheckSigOfTreesOfTrees(t *testing.T) {
	g := house(1)
	text := plainText(plainAnchor(g), 9, hashOf(1))
	for from := range 4 {
		for levels := 1; levels <= 2; levels++ {
			k, e := hss.New(secretOf(from), widthOf(from), levels)
			if e != api.OK {
				t.Fatal(e)
			}
			sig, e := k.Sign(0, text)
			if e != api.OK {
				t.Fatal(e)
			}
			checked(t, "trees", g, api.Vote{Place: 9, From: from, Link: hashOf(1), Sig: sig}, api.ErrSig)
		}
	}
}

// Promise 13.1: a vote is for one genesis, though others have the same keys.
func TestCheckSigOfOtherGeneses(t *testing.T) {
	later := space.New(15, 15)
	later.Now = 1
	laterBytes, _ := state.Put(later)
	freshBytes, _ := state.Put(space.New(15, 15))
	all := []api.Genesis{house(1), started(1), house(2), house(0)}
	for _, turn := range []func(g *api.Genesis){
		func(g *api.Genesis) { g.Read = 14 },
		func(g *api.Genesis) { g.Write = 14 },
		func(g *api.Genesis) { g.Start = freshBytes },
		func(g *api.Genesis) { g.Start = laterBytes },
		func(g *api.Genesis) { g.Keys[2], g.Keys[3] = g.Keys[3], g.Keys[2] },
		func(g *api.Genesis) { g.Keys[3] = g.Keys[0] },
		func(g *api.Genesis) { g.Keys[3][55]++ },
	} {
		g := house(1)
		turn(&g)
		all = append(all, g)
	}
	for n, g := range all {
		v := cast(mayBe(t, g), 0, n, 3, hashOf(1))
		for m, other := range all {
			checked(t, "a genesis", other, v, okWhere(n == m))
		}
	}
}

// Promise 13.1: the number says whose key is asked: where two are alike, either.
func TestCheckOfKeysThatAreAlike(t *testing.T) {
	g := house(1)
	g.Keys[2] = g.Keys[1]
	v := cast(mayBe(t, g), 1, 5, 3, hashOf(1))
	for from, want := range []int{api.ErrSig, api.OK, api.OK, api.ErrSig} {
		v.From = from
		checked(t, "alike", g, v, want)
	}
}

// Promise 13.1 (and rule 2): what is asked is not changed, also behind its end.
func TestCheckedIsNotChanged(t *testing.T) {
	for _, place := range []int{0, 5, 6} {
		g := started(1)
		v := cast(g, 2, 1, 5, hashOf(1))
		v.Place = place
		for n := range g.Keys {
			g.Keys[n] = append(g.Keys[n], "behind it"...)[:56]
		}
		v.Sig = append(v.Sig, "behind it"...)[:len(v.Sig)]
		g0, v0 := copyGenesis(g), copyVote(v)
		e := Check(g, v)
		if !reflect.DeepEqual(copyGenesis(g), g0) || !sameParts(v, v0) {
			t.Fatalf("place %d: changed", place)
		}
		for _, b := range append(slices.Clone(g.Keys), v.Sig) {
			if string(b[len(b):len(b)+9]) != "behind it" {
				t.Fatalf("place %d: behind the end: %q", place, b[:len(b)+9])
			}
		}
		if again := Check(g0, v0); again != e {
			t.Fatalf("place %d: error %d, then %d", place, e, again)
		}
	}
}

// Promise 13.1 (and rule 2): nothing of an earlier call is kept.
func TestCheckKeepsNothing(t *testing.T) {
	g := house(1)
	v := cast(g, 1, 2, 5, hashOf(1))
	checked(t, "as it is", g, v, api.OK)
	v.Sig[100] ^= 1
	checked(t, "turned behind", g, v, api.ErrSig)
	v.Sig[100] ^= 1
	key := g.Keys[1]
	g.Keys[1] = g.Keys[2]
	checked(t, "another key behind", g, v, api.ErrSig)
	g.Keys[1] = key
	checked(t, "as it was", g, v, api.OK)
}
