package cert

import (
	"bytes"
	"math"
	"math/bits"
	"math/rand"
	"reflect"
	"strings"
	"sync"
	"testing"

	"chirograph/api"
	"chirograph/genesis"
	"chirograph/lms"
	"chirograph/space"
	"chirograph/state"
)

// hashOf is one of which no two bytes are alike.
func hashOf(first byte) api.Hash {
	var h api.Hash
	for n := range h {
		h[n] = first + byte(n)
	}
	return h
}

func randomBytes(chance *rand.Rand, size int) []byte {
	b := make([]byte, size)
	chance.Read(b)
	return b
}

// secretOf is replica n's; the others' are made of letters that stand further on.
func secretOf(n int) api.Secret {
	var s api.Secret
	copy(s.I[:], strings.Repeat(string(rune('a'+n)), len(s.I)))
	copy(s.Seed[:], strings.Repeat(string(rune('A'+n)), len(s.Seed)))
	return s
}

// widthOf is replica n's: all widths are somebody's.
func widthOf(n int) int { return 1 << (n % 4) }

// trees are the seven replicas', made once for all tests.
var trees = sync.OnceValue(func() [7]*lms.Tree {
	var all [7]*lms.Tree
	for n := range all {
		all[n], _ = lms.New(secretOf(n), widthOf(n))
	}
	return all
})

// house is a genesis that may be, whose replicas are the first of the seven.
func house(f int) api.Genesis {
	g := api.Genesis{F: f, Read: 15, Write: 15}
	for n := range 3*f + 1 {
		g.Keys = append(g.Keys, trees()[n].Public())
	}
	return g
}

// started is one that begins with a space in which there is something.
func started(f int) api.Genesis {
	g := house(f)
	s := space.New(15, 15)
	s.Now, s.Items = 9, []api.Item{{Owner: 2, T: []api.Field{{Kind: api.FText, S: "here"}}}}
	g.Start, _ = state.Put(s)
	return g
}

// houses are such as may be, of all F.
func houses() []api.Genesis {
	return []api.Genesis{house(0), house(1), house(2), started(0), started(1), started(2)}
}

func copyVotes(l []api.Vote) []api.Vote {
	other := []api.Vote{}
	for _, v := range l {
		v.Sig = append([]byte{}, v.Sig...)
		other = append(other, v)
	}
	return other
}

func copyGenesis(g api.Genesis) api.Genesis {
	keys := [][]byte{}
	for _, key := range g.Keys {
		keys = append(keys, append([]byte{}, key...))
	}
	g.Keys, g.Start = keys, append([]byte{}, g.Start...)
	return g
}

// sameVotes tells whether two lists are the same in all parts, asked by the library.
func sameVotes(a, b []api.Vote) bool { return reflect.DeepEqual(copyVotes(a), copyVotes(b)) }

// told is what a vote says, and with which leaf.
type told struct {
	anchor            api.Hash
	from, leaf, place int
	link              api.Hash
}

// signatures are those that were made: a leaf's of one text is always the same.
var signatures = map[told][]byte{}

// castBy is a replica's vote, signed by that leaf of its own.
func castBy(g api.Genesis, from, leaf, place int, link api.Hash) api.Vote {
	what := told{plainAnchor(g), from, leaf, place, link}
	if signatures[what] == nil {
		sig, e := trees()[from].Sign(leaf, plainText(what.anchor, place, link))
		if e != api.OK {
			panic("a leaf that is not there")
		}
		signatures[what] = sig
	}
	return api.Vote{Place: place, From: from, Link: link, Sig: bytes.Clone(signatures[what])}
}

// cast is a replica's vote.
func cast(g api.Genesis, from, place int, link api.Hash) api.Vote {
	return castBy(g, from, from+7, place, link)
}

// castAll are the votes of these, in their order.
func castAll(g api.Genesis, place int, link api.Hash, who []int) []api.Vote {
	var l []api.Vote
	for _, from := range who {
		l = append(l, cast(g, from, place, link))
	}
	return l
}

// upTo are the numbers below n.
func upTo(n int) []int {
	var l []int
	for k := range n {
		l = append(l, k)
	}
	return l
}

// right is the certificate of the first replicas.
func right(g api.Genesis, place int, link api.Hash) []api.Vote {
	return castAll(g, place, link, upTo(plainNeed(g)))
}

// choices are all rising lists of so many numbers below n.
func choices(n, many int) [][]int {
	var all [][]int
	for set := range 1 << n {
		if bits.OnesCount(uint(set)) != many {
			continue
		}
		var l []int
		for k := range n {
			if set>>k&1 == 1 {
				l = append(l, k)
			}
		}
		all = append(all, l)
	}
	return all
}

// orders are all orders of the numbers below n; the first one is the rising one.
func orders(n int) [][]int {
	if n == 0 {
		return [][]int{nil}
	}
	var all [][]int
	for at := n - 1; at >= 0; at-- {
		for _, l := range orders(n - 1) {
			all = append(all, append(append(append([]int{}, l[:at]...), n-1), l[at:]...))
		}
	}
	return all
}

// ordered is the list with its votes in that order.
func ordered(l []api.Vote, order []int) []api.Vote {
	var other []api.Vote
	for _, n := range order {
		other = append(other, l[n])
	}
	return other
}

// checked holds what Check tells, also against the plain one, and twice.
func checked(t *testing.T, name string, g api.Genesis, place int, link api.Hash, l []api.Vote, want int) {
	t.Helper()
	for range 2 {
		if e := Check(g, place, link, l); e != want {
			t.Errorf("%s: F %d, place %d, of %v: error %d, want %d", name, g.F, place, froms(l), e, want)
		}
	}
	if e := plainCheck(g, place, link, l); e != want {
		t.Errorf("%s: a test that is wrong: F %d, place %d, of %v: error %d, want %d", name, g.F, place, froms(l), e, want)
	}
}

// picked holds that Pick gives just the votes that are wanted, twice, and that they are a certificate.
func picked(t *testing.T, name string, g api.Genesis, place int, link api.Hash, l, want []api.Vote) {
	t.Helper()
	for range 2 {
		if got, e := Pick(g, place, link, l); e != api.OK || !sameVotes(got, want) {
			t.Errorf("%s: F %d, place %d, of %v: %v, error %d, want %v", name, g.F, place, froms(l), froms(got), e, froms(want))
		}
	}
	if got, e := plainPick(g, place, link, l); e != api.OK || !sameVotes(got, want) {
		t.Errorf("%s: a test that is wrong: F %d, place %d, of %v: %v, error %d", name, g.F, place, froms(l), froms(got), e)
	}
	checked(t, name, g, place, link, want, api.OK)
}

// unpicked holds that Pick gives nothing but the error.
func unpicked(t *testing.T, name string, g api.Genesis, place int, link api.Hash, l []api.Vote, want int) {
	t.Helper()
	for range 2 {
		if got, e := Pick(g, place, link, l); e != want || len(got) != 0 {
			t.Errorf("%s: F %d, place %d, of %v: %v, error %d, want %d", name, g.F, place, froms(l), froms(got), e, want)
		}
	}
	if _, e := plainPick(g, place, link, l); e != want {
		t.Errorf("%s: a test that is wrong: F %d, place %d, of %v: error %d, want %d", name, g.F, place, froms(l), e, want)
	}
}

// froms are the numbers of who votes; of long lists, the first ones.
func froms(l []api.Vote) []int {
	var who []int
	for n := range min(len(l), 20) {
		who = append(who, l[n].From)
	}
	return who
}

// put writes votes that may be put.
func put(t *testing.T, l []api.Vote) []byte {
	t.Helper()
	b, e := Put(l)
	if e != api.OK || !plainMayPut(l) || !bytes.Equal(b, plainPut(l)) {
		t.Fatalf("Put of %d votes of %v: %x, error %d", len(l), froms(l), b, e)
	}
	return b
}

// get reads bytes that Put makes.
func get(t *testing.T, b []byte) []api.Vote {
	t.Helper()
	l, e := Get(b)
	if e != api.OK {
		t.Fatalf("Get of %x: error %d", b, e)
	}
	return l
}

// unput holds that votes may not be put, and that nothing is told beside it.
func unput(t *testing.T, name string, l []api.Vote) {
	t.Helper()
	if plainMayPut(l) {
		t.Errorf("%s: a test that is wrong", name)
	}
	if b, e := Put(l); e != api.ErrArg || len(b) != 0 {
		t.Errorf("%s: %d bytes, error %d", name, len(b), e)
	}
}

// nothing holds that Get takes no such bytes, and tells nothing of them.
func nothing(t *testing.T, name string, b []byte) {
	t.Helper()
	if _, ok := plainGet(b); ok {
		t.Errorf("%s: a test that is wrong", name)
	}
	if l, e := Get(b); e != api.ErrBad || len(l) != 0 {
		t.Errorf("%s: %d votes, error %d", name, len(l), e)
	}
}

// alike holds Get against the plain one: it takes just what Put makes.
func alike(t *testing.T, b []byte) bool {
	t.Helper()
	want, ok := plainGet(b)
	l, e := Get(b)
	if !ok {
		if e != api.ErrBad || len(l) != 0 {
			t.Fatalf("%x: %v, error %d", b, l, e)
		}
		return false
	}
	if e != api.OK || !sameVotes(l, want) {
		t.Fatalf("%x: %v, error %d, want %v", b, l, e, want)
	}
	if again := put(t, l); !bytes.Equal(again, b) {
		t.Fatalf("%x: written again: %x", b, again)
	}
	return true
}

// some are votes with something in each part, signed by nobody.
func some() []api.Vote {
	return []api.Vote{
		{Place: 258, From: 3, Link: hashOf(1), Sig: []byte("signed")},
		{Place: 0, From: 0, Link: hashOf(128)},
		{Place: api.MaxPlace, From: 6, Link: hashOf(1), Sig: []byte("as well")},
	}
}

// edges are numbers that stand where something ends, the farthest ones too.
func edges() []int {
	l := []int{math.MinInt, math.MinInt + 1, math.MaxInt - 1, math.MaxInt}
	for _, n := range []int{0, 1, 7, 8, 255, 256, 1 << 15, 1 << 16, 1 << 20, 1 << 24, 1 << 31, 1 << 32, 1<<32 + 1<<20, 1 << 40} {
		for by := -2; by <= 2; by++ {
			l = append(l, n+by, -n+by)
		}
	}
	return l
}

// mayBe holds that a genesis may be: a test that turns one asks it.
func mayBe(t *testing.T, g api.Genesis) api.Genesis {
	t.Helper()
	if !genesis.May(g) {
		t.Fatalf("a test that is wrong: %v", g)
	}
	return g
}

// wrongTurns make of a started genesis of F 1 one that may not be; the first key stays.
func wrongTurns() map[string]func(g *api.Genesis) {
	return map[string]func(g *api.Genesis){
		"F -1":              func(g *api.Genesis) { g.F = -1 },
		"F 0":               func(g *api.Genesis) { g.F = 0 },
		"F 2":               func(g *api.Genesis) { g.F = 2 },
		"F 3":               func(g *api.Genesis) { g.F, g.Keys = 3, append(append(g.Keys, g.Keys...), g.Keys[:2]...) },
		"F by 2^32":         func(g *api.Genesis) { g.F += 1 << 32 },
		"F by 2^63":         func(g *api.Genesis) { g.F += math.MinInt },
		"Read 16":           func(g *api.Genesis) { g.Read, g.Start = 16, nil },
		"another Read":      func(g *api.Genesis) { g.Read = 14 },
		"Write -1":          func(g *api.Genesis) { g.Write, g.Start = -1, nil },
		"another Write":     func(g *api.Genesis) { g.Write = 14 },
		"no keys":           func(g *api.Genesis) { g.Keys = nil },
		"a key less":        func(g *api.Genesis) { g.Keys = g.Keys[:3] },
		"a key more":        func(g *api.Genesis) { g.Keys = append(g.Keys, g.Keys[0]) },
		"a key alone":       func(g *api.Genesis) { g.Keys = g.Keys[:1] },
		"the last key, cut": func(g *api.Genesis) { g.Keys[3] = g.Keys[3][:55] },
		"a key's typecode":  func(g *api.Genesis) { g.Keys[2][3] = 6 },
		"Start, cut":        func(g *api.Genesis) { g.Start = g.Start[1:] },
		"Start, longer":     func(g *api.Genesis) { g.Start = append(g.Start, 0) },
	}
}
