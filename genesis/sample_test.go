package genesis

import (
	"bytes"
	"math/rand"
	"reflect"
	"slices"
	"strings"
	"testing"

	"chirograph/api"
	"chirograph/space"
	"chirograph/state"
)

// keyOf has a key's form: the OTS's typecode, and a letter that fills the rest.
func keyOf(ots byte, letter string) []byte {
	return []byte("\x00\x00\x00\x05\x00\x00\x00" + string(rune(ots)) + strings.Repeat(letter, 48))
}

// keysOf are so many of the form, no two alike, of all typecodes.
func keysOf(many int) [][]byte {
	var l [][]byte
	for n := range many {
		l = append(l, keyOf(byte(1+n%4), string(rune('a'+n))))
	}
	return l
}

// bare is a genesis that may be, with f faults and no Start.
func bare(f int) api.Genesis {
	return api.Genesis{F: f, Read: 13, Write: 7, Keys: keysOf(3*f + 1)}
}

// started is one that may be, with something in each part.
func started(f int) api.Genesis {
	g := bare(f)
	g.Start = bytesOf(busy(g.Read, g.Write))
	return g
}

// busy is a space that may be, with something in each part.
func busy(read, write int) api.Space {
	s := space.New(read, write)
	s.Now = 9
	s.Items = []api.Item{{Owner: 2, Until: 12, T: []api.Field{{Kind: api.FInt, N: 5}, {Kind: api.FText, S: "five"}}}, {T: []api.Field{{Kind: api.FText}}}}
	s.Waiters = []api.Waiter{{Client: 1, Seq: 4, Take: true, P: []api.Field{{Kind: api.AText}}}}
	s.Last[0] = api.Reply{Client: 0, Seq: 6, Kind: api.RTuple, T: []api.Field{{Kind: api.FInt, N: -1}}, Late: true}
	s.Last[1] = api.Reply{Client: 1, Seq: 4, Kind: api.RWaits}
	return s
}

// fullest is a space that has as much as one may have.
func fullest(read, write int) api.Space {
	s := space.New(read, write)
	long := slices.Repeat([]api.Field{{Kind: api.FText, S: strings.Repeat("x", 40)}}, 6)
	for n := range 64 {
		s.Items = append(s.Items, api.Item{Owner: n % 4, Until: 1 << 41, T: long})
	}
	for range 16 {
		s.Waiters = append(s.Waiters, api.Waiter{Client: 3, Seq: 1 << 30, P: long})
	}
	for c := range s.Last {
		s.Last[c] = api.Reply{Client: c, Seq: 1 << 30, Kind: api.RTuple, T: long}
	}
	return s
}

// bytesOf are those of a space that may be.
func bytesOf(s api.Space) []byte {
	b, e := state.Put(s)
	if e != api.OK {
		panic("a space that may not be")
	}
	return b
}

// copyGenesis is nil nowhere: a nil list and an empty one are the same.
func copyGenesis(g api.Genesis) api.Genesis {
	keys := [][]byte{}
	for _, key := range g.Keys {
		keys = append(keys, append([]byte{}, key...))
	}
	g.Keys, g.Start = keys, append([]byte{}, g.Start...)
	return g
}

// sameParts tells whether two are the same in all parts, asked by the library.
func sameParts(a, b api.Genesis) bool { return reflect.DeepEqual(copyGenesis(a), copyGenesis(b)) }

// put writes a genesis that may be.
func put(t *testing.T, g api.Genesis) []byte {
	t.Helper()
	b, e := Put(g)
	if e != api.OK {
		t.Fatalf("Put of %v: error %d", g, e)
	}
	return b
}

// get reads bytes that Put makes.
func get(t *testing.T, b []byte) api.Genesis {
	t.Helper()
	g, e := Get(b)
	if e != api.OK {
		t.Fatalf("Get of %x: error %d", b, e)
	}
	return g
}

// taken holds all calls of a genesis that may be against the plain ones.
func taken(t *testing.T, name string, g api.Genesis) {
	t.Helper()
	if !plainMay(g) || !May(g) {
		t.Errorf("%s: it may not be", name)
		return
	}
	b, e := Put(g)
	if e != api.OK || !bytes.Equal(b, plainPut(g)) {
		t.Errorf("%s: Put: %x, error %d", name, b, e)
	}
	if back, e := Get(plainPut(g)); e != api.OK || !sameParts(back, g) || !Same(back, g) {
		t.Errorf("%s: Get: %v, error %d", name, back, e)
	}
	if s := First(g); !space.Same(s, plainFirst(g)) || !space.May(s) || !bytes.Equal(bytesOf(s), plainStart(g)) {
		t.Errorf("%s: First: %v", name, s)
	}
	if h := Anchor(g); h != plainAnchor(g) {
		t.Errorf("%s: Anchor: %x", name, h)
	}
	if h := Link(g); h != plainLink(g) {
		t.Errorf("%s: Link: %x", name, h)
	}
}

// refused holds that all calls tell nothing of a genesis that may not be.
func refused(t *testing.T, name string, g api.Genesis) {
	t.Helper()
	if plainMay(g) || May(g) {
		t.Errorf("%s: it may be", name)
	}
	if b, e := Put(g); e != api.ErrArg || len(b) != 0 {
		t.Errorf("%s: Put: %x, error %d", name, b, e)
	}
	if s := First(g); !reflect.DeepEqual(s, api.Space{}) {
		t.Errorf("%s: First: %v", name, s)
	}
	if h := Anchor(g); h != (api.Hash{}) {
		t.Errorf("%s: Anchor: %x", name, h)
	}
	if h := Link(g); h != (api.Hash{}) {
		t.Errorf("%s: Link: %x", name, h)
	}
}

// nothing holds that Get takes no such bytes, and tells nothing of them.
func nothing(t *testing.T, name string, b []byte) {
	t.Helper()
	if g, e := Get(b); e != api.ErrBad || !sameParts(g, api.Genesis{}) {
		t.Errorf("%s: %v, error %d", name, g, e)
	}
}

// alike holds Get against the plain one: it takes just what Put makes.
func alike(t *testing.T, b []byte) {
	t.Helper()
	want, ok := plainGet(b)
	g, e := Get(b)
	if !ok {
		if e != api.ErrBad || !sameParts(g, api.Genesis{}) {
			t.Fatalf("%x: %v, error %d", b, g, e)
		}
		return
	}
	if e != api.OK || !sameParts(g, want) {
		t.Fatalf("%x: %v, error %d, want %v", b, g, e, want)
	}
	if again := put(t, g); !bytes.Equal(again, b) {
		t.Fatalf("%x: written again: %x", b, again)
	}
}

func randomKey(chance *rand.Rand) []byte {
	key := make([]byte, 56)
	chance.Read(key)
	copy(key, []byte{0, 0, 0, 5, 0, 0, 0, byte(1 + chance.Intn(4))})
	return key
}

// playedSpace is what a chain of requests makes of a new space.
func playedSpace(chance *rand.Rand, read, write int) api.Space {
	s := space.New(read, write)
	for range chance.Intn(30) {
		c := chance.Intn(4)
		r := api.Request{Client: c, Seq: s.Last[c].Seq + 1, Kind: 1 + chance.Intn(8)}
		if r.Kind != api.Out && r.Kind != api.Nop {
			r.P = []api.Field{{Kind: 3 + chance.Intn(3)}}
		}
		if r.Kind == api.Out || r.Kind == api.Cas || r.Kind == api.Replace {
			r.T, r.Lease = []api.Field{{Kind: api.FInt, N: int64(chance.Intn(3))}}, chance.Intn(4)
		}
		s, _ = space.Do(s, s.Now+chance.Intn(2), r)
	}
	return s
}

// randomGenesis is one that may be.
func randomGenesis(chance *rand.Rand) api.Genesis {
	g := api.Genesis{F: chance.Intn(3), Read: chance.Intn(16), Write: chance.Intn(16)}
	for range 3*g.F + 1 {
		g.Keys = append(g.Keys, randomKey(chance))
	}
	if chance.Intn(3) > 0 {
		g.Start = bytesOf(playedSpace(chance, g.Read, g.Write))
	}
	return g
}
