package link

import (
	"math/rand"
	"reflect"
	"slices"
	"strings"
	"testing"

	"chirograph/api"
	"chirograph/entry"
	"chirograph/space"
	"chirograph/state"
	"chirograph/tuple"
)

func number(n int64) api.Field        { return api.Field{Kind: api.FInt, N: n} }
func text(s string) api.Field         { return api.Field{Kind: api.FText, S: s} }
func list(l ...api.Field) []api.Field { return l }

var anyOne = api.Field{Kind: api.Any}

func nop(client, seq int) api.Request {
	return api.Request{Client: client, Seq: seq, Kind: api.Nop}
}

func out(client, seq, lease int, t ...api.Field) api.Request {
	return api.Request{Client: client, Seq: seq, Kind: api.Out, T: t, Lease: lease}
}

// ask is one of the kinds that have a template alone.
func ask(client, seq, kind int, p ...api.Field) api.Request {
	return api.Request{Client: client, Seq: seq, Kind: kind, P: p}
}

// at are the bytes of an entry that may be.
func at(now int, l ...api.Request) []byte {
	b, fault := entry.Put(api.Entry{Now: now, List: l})
	if fault != api.OK {
		panic("an entry that may not be")
	}
	return b
}

func told(client, seq, kind int, t ...api.Field) api.Reply {
	return api.Reply{Client: client, Seq: seq, Kind: kind, T: t}
}

func late(client, seq int, t ...api.Field) api.Reply {
	return api.Reply{Client: client, Seq: seq, Kind: api.RTuple, T: t, Late: true}
}

// hashOf is one of which no two bytes are alike.
func hashOf(first byte) api.Hash {
	var h api.Hash
	for n := range h {
		h[n] = first + byte(n)
	}
	return h
}

func randomHash(chance *rand.Rand) api.Hash {
	var h api.Hash
	chance.Read(h[:])
	return h
}

// keysOf are so many of the form, of all typecodes.
func keysOf(many int) [][]byte {
	var l [][]byte
	for n := range many {
		l = append(l, []byte("\x00\x00\x00\x05\x00\x00\x00"+string(rune(1+n%4))+strings.Repeat(string(rune('a'+n)), 48)))
	}
	return l
}

// bare is a genesis that may be, of all rights and no Start.
func bare(f int) api.Genesis {
	return api.Genesis{F: f, Read: 15, Write: 15, Keys: keysOf(3*f + 1)}
}

// started is one that begins with the busy space.
func started(f int) api.Genesis {
	return api.Genesis{F: f, Read: 13, Write: 7, Keys: keysOf(3*f + 1), Start: bytesOf(busy())}
}

// busy is a space that may be, with something in each part.
func busy() api.Space {
	s := space.New(13, 7)
	s.Now = 9
	s.Items = []api.Item{{Owner: 2, Until: 12, T: list(number(5), text("five"))}, {T: list(text(""))}}
	s.Waiters = []api.Waiter{{Client: 1, Seq: 4, Take: true, P: list(api.Field{Kind: api.AText})}}
	s.Last[0] = late(0, 6, number(-1))
	s.Last[1] = told(1, 4, api.RWaits)
	return s
}

// bytesOf are those of a space that may be.
func bytesOf(s api.Space) []byte {
	b, fault := state.Put(s)
	if fault != api.OK {
		panic("a space that may not be")
	}
	return b
}

func copyFields(l []api.Field) []api.Field { return append([]api.Field{}, l...) }

func copySpace(s api.Space) api.Space {
	s.Items, s.Waiters = slices.Clone(s.Items), slices.Clone(s.Waiters)
	for n := range s.Items {
		s.Items[n].T = copyFields(s.Items[n].T)
	}
	for n := range s.Waiters {
		s.Waiters[n].P = copyFields(s.Waiters[n].P)
	}
	for c := range s.Last {
		s.Last[c].T = copyFields(s.Last[c].T)
	}
	return s
}

func copyTexts(l [][]byte) [][]byte {
	var all [][]byte
	for _, b := range l {
		all = append(all, slices.Clone(b))
	}
	return all
}

func sameTold(a, b []api.Reply) bool {
	return slices.EqualFunc(a, b, func(a, b api.Reply) bool {
		return a.Client == b.Client && a.Seq == b.Seq && a.Kind == b.Kind && a.Late == b.Late && tuple.Same(a.T, b.T)
	})
}

// isZero tells whether there is nothing in a space, nor room in its lists.
func isZero(s api.Space) bool { return reflect.DeepEqual(s, api.Space{}) }

// step goes one on where that may be.
func step(t *testing.T, ahead api.Hash, s api.Space, b []byte) (api.Hash, api.Space, []api.Reply) {
	t.Helper()
	h, behind, replies, fault := Step(ahead, s, b)
	if fault != api.OK {
		t.Fatalf("Step of %x to %v: error %d", b, s, fault)
	}
	return h, behind, replies
}

// run goes all the way where that may be.
func run(t *testing.T, g api.Genesis, l ...[]byte) (api.Hash, api.Space) {
	t.Helper()
	h, s, fault := Run(g, l)
	if fault != api.OK {
		t.Fatalf("Run of %v, %x: error %d", g, l, fault)
	}
	return h, s
}

// refused holds that Step tells that error, and nothing beside it, whatever is ahead.
func refused(t *testing.T, name string, s api.Space, b []byte, want int) {
	t.Helper()
	for _, ahead := range []api.Hash{{}, hashOf(1)} {
		if h, behind, replies, fault := Step(ahead, s, b); fault != want || h != (api.Hash{}) || !isZero(behind) || len(replies) != 0 {
			t.Errorf("%s: %x, %v, told %v, error %d, want %d", name, h, behind, replies, fault, want)
		}
	}
}

// refusedRun is refused of Run.
func refusedRun(t *testing.T, name string, g api.Genesis, l [][]byte, want int) {
	t.Helper()
	if h, s, fault := Run(g, l); fault != want || h != (api.Hash{}) || !isZero(s) {
		t.Errorf("%s: %x, %v, error %d, want %d", name, h, s, fault, want)
	}
}

// stepAsPlainly holds Step against the plain one.
func stepAsPlainly(t *testing.T, ahead api.Hash, s api.Space, b []byte) int {
	t.Helper()
	want, wantSpace, wantTold, wantFault := plainStep(ahead, s, b)
	h, behind, replies, fault := Step(ahead, s, b)
	if h != want || fault != wantFault || !space.Same(behind, wantSpace) || !sameTold(replies, wantTold) {
		t.Fatalf("%v\n%x: %x, want %x\n%v, want %v\ntold %v, want %v\nerror %d, want %d", s, b, h, want, behind, wantSpace, replies, wantTold, fault, wantFault)
	}
	return fault
}

// runAsPlainly is the same of Run.
func runAsPlainly(t *testing.T, g api.Genesis, l [][]byte) int {
	t.Helper()
	want, wantSpace, wantFault := plainRun(g, l)
	h, s, fault := Run(g, l)
	if h != want || fault != wantFault || !space.Same(s, wantSpace) {
		t.Fatalf("%v\n%x: %x, want %x\n%v, want %v\nerror %d, want %d", g, l, h, want, s, wantSpace, fault, wantFault)
	}
	return fault
}

// few are one or two of few fields, so that much matches.
func few(chance *rand.Rand, template bool) []api.Field {
	from := list(number(1), number(2), text("a"), text("b"))
	if template {
		from = append(from, anyOne, api.Field{Kind: api.AInt}, api.Field{Kind: api.AText})
	}
	l := make([]api.Field, 1+chance.Intn(2))
	for n := range l {
		l[n] = from[chance.Intn(len(from))]
	}
	return l
}

// randomEntry are the bytes of one that goes on from s, by numbers that mostly go on from its own.
func randomEntry(chance *rand.Rand, s api.Space) []byte {
	var next [api.Clients]int
	for c := range next {
		next[c] = s.Last[c].Seq
	}
	var l []api.Request
	for range 1 + chance.Intn(8) {
		c := chance.Intn(4)
		next[c] = max(1, next[c]+[]int{-1, 0, 1, 1, 1, 1, 1, 2}[chance.Intn(8)])
		r := api.Request{Client: c, Seq: next[c], Kind: 1 + chance.Intn(8)}
		if r.Kind != api.Out && r.Kind != api.Nop {
			r.P = few(chance, true)
		}
		if r.Kind == api.Out || r.Kind == api.Cas || r.Kind == api.Replace {
			r.T, r.Lease = few(chance, false), []int{0, 1, 1 + chance.Intn(6), 1 << 40}[chance.Intn(4)]
		}
		l = append(l, r)
	}
	return at(min(1<<40, s.Now+[]int{0, 0, 1, 2, 7}[chance.Intn(5)]), l...)
}

// played are the bytes of entries that go on from g, and the space behind them.
func played(chance *rand.Rand, g api.Genesis, many int) ([][]byte, api.Space) {
	_, s, _ := plainRun(g, nil)
	var l [][]byte
	for range many {
		l = append(l, randomEntry(chance, s))
		_, s, _, _ = plainStep(api.Hash{}, s, l[len(l)-1])
	}
	return l, s
}

// randomGenesis is one that may be.
func randomGenesis(chance *rand.Rand) api.Genesis {
	g := bare(chance.Intn(3))
	chance.Read(g.Keys[len(g.Keys)-1][8:])
	if chance.Intn(2) == 0 {
		g.Read, g.Write = chance.Intn(16), chance.Intn(16)
	}
	if chance.Intn(2) == 0 {
		_, s := played(chance, g, chance.Intn(5))
		g.Start = bytesOf(s)
	}
	return g
}

// stepsOf are the steps that entries make, with the digests behind them.
func stepsOf(t *testing.T, g api.Genesis, l [][]byte) []api.Step {
	t.Helper()
	var steps []api.Step
	for n, b := range l {
		_, s, fault := plainRun(g, l[:n+1])
		if fault != api.OK {
			t.Fatalf("a test that is wrong: error %d", fault)
		}
		steps = append(steps, api.Step{Entry: b, Digest: plainDigest(s)})
	}
	return steps
}
