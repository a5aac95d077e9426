package state

import (
	"math/rand"
	"reflect"
	"strings"
	"testing"

	"chirograph/api"
	"chirograph/space"
)

func number(n int64) api.Field        { return api.Field{Kind: api.FInt, N: n} }
func text(s string) api.Field         { return api.Field{Kind: api.FText, S: s} }
func list(l ...api.Field) []api.Field { return l }

var (
	anyOne    = api.Field{Kind: api.Any}
	anyNumber = api.Field{Kind: api.AInt}
	anyText   = api.Field{Kind: api.AText}
)

func copyFields(l []api.Field) []api.Field { return append([]api.Field{}, l...) }

// copySpace is nil nowhere: a nil list and an empty one are the same.
func copySpace(s api.Space) api.Space {
	items := []api.Item{}
	for _, i := range s.Items {
		items = append(items, api.Item{Owner: i.Owner, Until: i.Until, T: copyFields(i.T)})
	}
	waiters := []api.Waiter{}
	for _, w := range s.Waiters {
		waiters = append(waiters, api.Waiter{Client: w.Client, Seq: w.Seq, Take: w.Take, P: copyFields(w.P)})
	}
	s.Items, s.Waiters = items, waiters
	for c := range s.Last {
		s.Last[c].T = copyFields(s.Last[c].T)
	}
	return s
}

// sameParts tells whether two spaces are the same in all parts, asked by the library.
func sameParts(a, b api.Space) bool { return reflect.DeepEqual(copySpace(a), copySpace(b)) }

// put writes a space that may be.
func put(t *testing.T, s api.Space) []byte {
	t.Helper()
	b, e := Put(s)
	if e != api.OK {
		t.Fatalf("Put of %v: error %d", s, e)
	}
	return b
}

// get reads bytes that Put makes.
func get(t *testing.T, b []byte) api.Space {
	t.Helper()
	s, e := Get(b)
	if e != api.OK {
		t.Fatalf("Get of %x: error %d", b, e)
	}
	return s
}

// digest is that of a space that may be.
func digest(t *testing.T, s api.Space) api.Hash {
	t.Helper()
	h, e := Digest(s)
	if e != api.OK {
		t.Fatalf("Digest of %v: error %d", s, e)
	}
	return h
}

// refused holds that Get takes no such bytes, and tells nothing of them.
func refused(t *testing.T, name string, b []byte) {
	t.Helper()
	if s, e := Get(b); e != api.ErrBad || !sameParts(s, api.Space{}) {
		t.Errorf("%s: %v, error %d", name, s, e)
	}
}

// alike holds Get against the plain one: it takes just what Put makes.
func alike(t *testing.T, b []byte) {
	t.Helper()
	want, ok := plainGet(b)
	s, e := Get(b)
	if !ok {
		if e != api.ErrBad || !sameParts(s, api.Space{}) {
			t.Fatalf("%x: %v, error %d", b, s, e)
		}
		return
	}
	if e != api.OK || !sameParts(s, want) {
		t.Fatalf("%x: %v, error %d, want %v", b, s, e, want)
	}
	if again := put(t, s); string(again) != string(b) {
		t.Fatalf("%x: written again: %x", b, again)
	}
}

// whole is a space that may be, with something in each part.
func whole() api.Space {
	s := space.New(13, 7)
	s.Now = 0x64
	s.Items = []api.Item{
		{Owner: 0, T: list(number(1), text("a"))},
		{Owner: 3, Until: 0x65, T: list(text(""))},
		{Owner: 1, Until: 1 << 41, T: list(number(-2))},
	}
	s.Waiters = []api.Waiter{
		{Client: 2, Seq: 5, Take: true, P: list(anyText, number(9))},
		{Client: 0, Seq: 1 << 30, P: list(text("z"))},
	}
	s.Last[0] = api.Reply{Client: 0, Seq: 1 << 30, Kind: api.RTuple, T: list(number(4)), Late: true}
	s.Last[1] = api.Reply{Client: 1, Seq: 1, Kind: api.RDenied}
	s.Last[2] = api.Reply{Client: 2, Seq: 0x01020304, Kind: api.RTuple, T: list(text("t"))}
	return s
}

// longest are as many fields, and as long ones, as there may be.
func longest(letter string) []api.Field {
	var l []api.Field
	for range 6 {
		l = append(l, text(strings.Repeat(letter, 40)))
	}
	return l
}

// fullest is a space that has as much as one may have.
func fullest() api.Space {
	s := space.New(15, 15)
	s.Now = 1 << 40
	for n := range 64 {
		s.Items = append(s.Items, api.Item{Owner: n % 4, Until: 1 << 41, T: longest("x")})
	}
	for range 16 {
		s.Waiters = append(s.Waiters, api.Waiter{Client: 3, Seq: 1 << 30, Take: true, P: longest("y")})
	}
	for c := range s.Last {
		s.Last[c] = api.Reply{Client: c, Seq: 1 << 30, Kind: api.RTuple, T: longest("z"), Late: true}
	}
	return s
}

func randomFields(chance *rand.Rand, template bool) []api.Field {
	l := make([]api.Field, 1+chance.Intn(6))
	for at := range l {
		l[at] = number(int64(chance.Uint64()) >> chance.Intn(64))
		if chance.Intn(2) == 0 {
			l[at] = text(strings.Repeat(string(rune('a'+chance.Intn(5))), []int{0, 1, chance.Intn(41), 40}[chance.Intn(4)]))
		}
		if template && chance.Intn(3) == 0 {
			l[at] = list(anyOne, anyNumber, anyText)[chance.Intn(3)]
		}
	}
	return l
}

// randomNumber is from lowest to highest, at its edges ever and again.
func randomNumber(chance *rand.Rand, lowest, highest int) int {
	switch chance.Intn(4) {
	case 0:
		return lowest
	case 1:
		return highest
	case 2:
		return lowest + chance.Intn(min(300, highest-lowest+1))
	}
	return lowest + chance.Intn(highest-lowest+1)
}

// randomSpace is one that may be, of up to so many rows.
func randomSpace(chance *rand.Rand, rows int) api.Space {
	s := space.New(chance.Intn(16), chance.Intn(16))
	s.Now = randomNumber(chance, 0, 1<<40)
	for range chance.Intn(rows + 1) {
		i := api.Item{Owner: len(s.Items) % 4, T: randomFields(chance, false)}
		if chance.Intn(2) == 0 {
			i.Until = randomNumber(chance, s.Now+1, 1<<41)
		}
		s.Items = append(s.Items, i)
	}
	for range chance.Intn(min(16, rows) + 1) {
		s.Waiters = append(s.Waiters, api.Waiter{Client: chance.Intn(4), Seq: randomNumber(chance, 1, 1<<30), Take: chance.Intn(2) == 0, P: randomFields(chance, true)})
	}
	for c := range s.Last {
		if chance.Intn(4) == 0 {
			continue
		}
		last := api.Reply{Client: c, Seq: randomNumber(chance, 1, 1<<30), Kind: 1 + chance.Intn(6)}
		if chance.Intn(2) == 0 {
			last.Kind = api.RTuple
		}
		if last.Kind == api.RTuple {
			last.T, last.Late = randomFields(chance, false), chance.Intn(2) == 0
		}
		s.Last[c] = last
	}
	chance.Shuffle(len(s.Items), func(a, b int) { s.Items[a].Owner, s.Items[b].Owner = s.Items[b].Owner, s.Items[a].Owner })
	return s
}

// playedSpace is what a chain of requests makes of a new space.
func playedSpace(chance *rand.Rand) api.Space {
	s := space.New(chance.Intn(16)|1, chance.Intn(16)|1)
	for range chance.Intn(60) {
		c := chance.Intn(4)
		r := api.Request{Client: c, Seq: s.Last[c].Seq + 1, Kind: 1 + chance.Intn(8)}
		if r.Kind != api.Out && r.Kind != api.Nop {
			r.P = randomFields(chance, true)[:1]
		}
		if r.Kind == api.Out || r.Kind == api.Cas || r.Kind == api.Replace {
			r.T, r.Lease = randomFields(chance, false)[:1], chance.Intn(4)
		}
		s, _ = space.Do(s, s.Now+chance.Intn(2), r)
	}
	return s
}
