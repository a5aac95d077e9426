package vote

import (
	"bytes"
	"math"
	"math/rand"
	"reflect"
	"strings"
	"sync"
	"testing"

	"chirograph/api"
	"chirograph/genesis"
	"chirograph/lms"
	"chirograph/space"
	"chirograph/state"
)

// hashOf is one of which no two bytes are alike.
func hashOf(first byte) api.Hash {
	var h api.Hash
	for n := range h {
		h[n] = first + byte(n)
	}
	return h
}

func randomHash(chance *rand.Rand) api.Hash {
	var h api.Hash
	chance.Read(h[:])
	return h
}

func randomBytes(chance *rand.Rand, size int) []byte {
	b := make([]byte, size)
	chance.Read(b)
	return b
}

// secretOf is replica n's; the others' are made of letters that stand further on.
func secretOf(n int) api.Secret {
	var s api.Secret
	copy(s.I[:], strings.Repeat(string(rune('a'+n)), len(s.I)))
	copy(s.Seed[:], strings.Repeat(string(rune('A'+n)), len(s.Seed)))
	return s
}

// widthOf is replica n's: all widths are somebody's.
func widthOf(n int) int { return 1 << (n % 4) }

// trees are the seven replicas', made once for all tests.
var trees = sync.OnceValue(func() [7]*lms.Tree {
	var all [7]*lms.Tree
	for n := range all {
		all[n], _ = lms.New(secretOf(n), widthOf(n))
	}
	return all
})

// house is a genesis that may be, whose replicas are the first of the seven.
func house(f int) api.Genesis {
	g := api.Genesis{F: f, Read: 15, Write: 15}
	for n := range 3*f + 1 {
		g.Keys = append(g.Keys, trees()[n].Public())
	}
	return g
}

// started is one that begins with a space in which there is something.
func started(f int) api.Genesis {
	g := house(f)
	s := space.New(15, 15)
	s.Now, s.Items = 9, []api.Item{{Owner: 2, T: []api.Field{{Kind: api.FText, S: "here"}}}}
	g.Start, _ = state.Put(s)
	return g
}

// houses are such as may be, of all F.
func houses() []api.Genesis {
	return []api.Genesis{house(0), house(1), house(2), started(0), started(1), started(2)}
}

func copyVote(v api.Vote) api.Vote {
	v.Sig = append([]byte{}, v.Sig...)
	return v
}

func copyGenesis(g api.Genesis) api.Genesis {
	keys := [][]byte{}
	for _, key := range g.Keys {
		keys = append(keys, append([]byte{}, key...))
	}
	g.Keys, g.Start = keys, append([]byte{}, g.Start...)
	return g
}

// sameParts tells whether two are the same in all parts, asked by the library.
func sameParts(a, b api.Vote) bool { return reflect.DeepEqual(copyVote(a), copyVote(b)) }

// signed is what replica n's leaf makes of a text.
func signed(n, leaf int, text []byte) []byte {
	sig, e := trees()[n].Sign(leaf, text)
	if e != api.OK {
		panic("a leaf that is not there")
	}
	return sig
}

// cast is a replica's vote, signed by a leaf of its own.
func cast(g api.Genesis, from, leaf, place int, link api.Hash) api.Vote {
	return api.Vote{Place: place, From: from, Link: link, Sig: signed(from, leaf, plainText(plainAnchor(g), place, link))}
}

// checked holds what Check tells, also against the plain one, and twice.
func checked(t *testing.T, name string, g api.Genesis, v api.Vote, want int) {
	t.Helper()
	for range 2 {
		if e := Check(g, v); e != want {
			t.Errorf("%s: place %d, from %d, %d bytes: error %d, want %d", name, v.Place, v.From, len(v.Sig), e, want)
		}
	}
	if e := plainCheck(g, v); e != want {
		t.Errorf("%s: a test that is wrong: error %d", name, e)
	}
}

// okWhere is what Check tells of a vote whose parts may be.
func okWhere(holds bool) int {
	if holds {
		return api.OK
	}
	return api.ErrSig
}

// put writes a vote that may be put.
func put(t *testing.T, v api.Vote) []byte {
	t.Helper()
	b, e := Put(v)
	if e != api.OK || !plainMayPut(v) || !bytes.Equal(b, plainPut(v)) {
		t.Fatalf("Put of place %d, from %d, %d bytes: %x, error %d", v.Place, v.From, len(v.Sig), b, e)
	}
	return b
}

// get reads bytes that Put makes.
func get(t *testing.T, b []byte) api.Vote {
	t.Helper()
	v, e := Get(b)
	if e != api.OK {
		t.Fatalf("Get of %x: error %d", b, e)
	}
	return v
}

// unput holds that a vote may not be put, and that nothing is told beside it.
func unput(t *testing.T, name string, v api.Vote) {
	t.Helper()
	if plainMayPut(v) {
		t.Errorf("%s: a test that is wrong", name)
	}
	if b, e := Put(v); e != api.ErrArg || len(b) != 0 {
		t.Errorf("%s: %d bytes, error %d", name, len(b), e)
	}
}

// nothing holds that Get takes no such bytes, and tells nothing of them.
func nothing(t *testing.T, name string, b []byte) {
	t.Helper()
	if v, e := Get(b); e != api.ErrBad || !sameParts(v, api.Vote{}) {
		t.Errorf("%s: place %d, from %d, %d bytes, error %d", name, v.Place, v.From, len(v.Sig), e)
	}
}

// alike holds Get against the plain one: it takes just what Put makes.
func alike(t *testing.T, b []byte) bool {
	t.Helper()
	want, ok := plainGet(b)
	v, e := Get(b)
	if !ok {
		if e != api.ErrBad || !sameParts(v, api.Vote{}) {
			t.Fatalf("%x: %v, error %d", b, v, e)
		}
		return false
	}
	if e != api.OK || !sameParts(v, want) {
		t.Fatalf("%x: %v, error %d, want %v", b, v, e, want)
	}
	if again := put(t, v); !bytes.Equal(again, b) {
		t.Fatalf("%x: written again: %x", b, again)
	}
	return true
}

// some is a vote with something in each part, signed by nobody.
func some() api.Vote {
	return api.Vote{Place: 258, From: 3, Link: hashOf(1), Sig: []byte("signed")}
}

// edges are numbers that stand where something ends, the farthest ones too.
func edges() []int {
	l := []int{math.MinInt, math.MinInt + 1, math.MaxInt - 1, math.MaxInt}
	for _, n := range []int{0, 1, 7, 8, 255, 256, 1 << 15, 1 << 16, 1 << 20, 1 << 24, 1 << 31, 1 << 32, 1<<32 + 1<<20, 1 << 40} {
		for by := -2; by <= 2; by++ {
			l = append(l, n+by, -n+by)
		}
	}
	return l
}

// randomVote may be put; its signature is mostly short.
func randomVote(chance *rand.Rand) api.Vote {
	v := api.Vote{Place: chance.Intn(1<<20 + 1), From: chance.Intn(7), Link: randomHash(chance)}
	v.Place >>= chance.Intn(21)
	v.Sig = randomBytes(chance, chance.Intn([]int{1, 9, 300, 9001}[chance.Intn(4)]))
	return v
}

// mayBe holds that a genesis may be: a test that turns one asks it.
func mayBe(t *testing.T, g api.Genesis) api.Genesis {
	t.Helper()
	if !genesis.May(g) {
		t.Fatalf("a test that is wrong: %v", g)
	}
	return g
}
