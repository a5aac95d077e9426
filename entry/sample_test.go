package entry

import (
	"bytes"
	"math/rand"
	"reflect"
	"strings"
	"testing"

	"chirograph/api"
	"chirograph/space"
)

func number(n int64) api.Field        { return api.Field{Kind: api.FInt, N: n} }
func text(s string) api.Field         { return api.Field{Kind: api.FText, S: s} }
func list(l ...api.Field) []api.Field { return l }

var anyOne = api.Field{Kind: api.Any}

func nop(client, seq int) api.Request {
	return api.Request{Client: client, Seq: seq, Kind: api.Nop}
}

func out(client, seq int, t ...api.Field) api.Request {
	return api.Request{Client: client, Seq: seq, Kind: api.Out, T: t}
}

func leased(client, seq, lease int, t ...api.Field) api.Request {
	return api.Request{Client: client, Seq: seq, Kind: api.Out, T: t, Lease: lease}
}

// ask is one of the kinds that have a template alone.
func ask(client, seq, kind int, p ...api.Field) api.Request {
	return api.Request{Client: client, Seq: seq, Kind: kind, P: p}
}

// bring is one of the kinds that have a template and a tuple of a field each.
func bring(client, seq, kind int, p, t api.Field) api.Request {
	return api.Request{Client: client, Seq: seq, Kind: kind, P: list(p), T: list(t)}
}

func at(now int, l ...api.Request) api.Entry { return api.Entry{Now: now, List: l} }

// nops are so many, each of its own number.
func nops(many int) []api.Request {
	l := []api.Request{}
	for n := range many {
		l = append(l, nop(n%4, n+1))
	}
	return l
}

// ofEachKind is an entry with a request of each kind.
func ofEachKind() api.Entry {
	long := strings.Repeat("x", 40)
	return at(0x0102030405,
		leased(0, 1, 1<<40, number(-1), text(long)),
		ask(1, 1<<30, api.Rdp, anyOne),
		ask(2, 0x01020304, api.Inp, text("a"), api.Field{Kind: api.AInt}),
		ask(3, 2, api.Rd, number(7)),
		ask(0, 3, api.In, api.Field{Kind: api.AText}),
		bring(1, 4, api.Cas, anyOne, text("")),
		bring(2, 5, api.Replace, number(1), number(2)),
		nop(3, 6))
}

// largest is an entry of as many bytes as one may have.
func largest() api.Entry {
	var long []api.Field
	for range 6 {
		long = append(long, text(strings.Repeat("y", 40)))
	}
	e := api.Entry{Now: 1 << 40}
	for n := range 8 {
		e.List = append(e.List, api.Request{Client: 3, Seq: 1<<30 - n, Kind: api.Replace, P: copyFields(long), T: copyFields(long), Lease: 1 << 40})
	}
	return e
}

func copyFields(l []api.Field) []api.Field { return append([]api.Field{}, l...) }

// copyEntry is nil nowhere: a nil list and an empty one are the same.
func copyEntry(e api.Entry) api.Entry {
	l := []api.Request{}
	for _, r := range e.List {
		r.P, r.T = copyFields(r.P), copyFields(r.T)
		l = append(l, r)
	}
	e.List = l
	return e
}

// copySpace is nil nowhere, too.
func copySpace(s api.Space) api.Space {
	items := []api.Item{}
	for _, i := range s.Items {
		items = append(items, api.Item{Owner: i.Owner, Until: i.Until, T: copyFields(i.T)})
	}
	waiters := []api.Waiter{}
	for _, w := range s.Waiters {
		waiters = append(waiters, api.Waiter{Client: w.Client, Seq: w.Seq, Take: w.Take, P: copyFields(w.P)})
	}
	s.Items, s.Waiters = items, waiters
	for c := range s.Last {
		s.Last[c].T = copyFields(s.Last[c].T)
	}
	return s
}

func copyTold(l []api.Reply) []api.Reply {
	told := []api.Reply{}
	for _, reply := range l {
		reply.T = copyFields(reply.T)
		told = append(told, reply)
	}
	return told
}

// sameParts tells whether two entries are the same in all parts, asked by the library.
func sameParts(a, b api.Entry) bool { return reflect.DeepEqual(copyEntry(a), copyEntry(b)) }

// sameSpace is sameParts of spaces.
func sameSpace(a, b api.Space) bool { return reflect.DeepEqual(copySpace(a), copySpace(b)) }

// sameTold is sameParts of replies.
func sameTold(a, b []api.Reply) bool { return reflect.DeepEqual(copyTold(a), copyTold(b)) }

// put writes an entry that may be.
func put(t *testing.T, e api.Entry) []byte {
	t.Helper()
	b, fault := Put(e)
	if fault != api.OK {
		t.Fatalf("Put of %v: error %d", e, fault)
	}
	return b
}

// get reads bytes that Put makes.
func get(t *testing.T, b []byte) api.Entry {
	t.Helper()
	e, fault := Get(b)
	if fault != api.OK {
		t.Fatalf("Get of %x: error %d", b, fault)
	}
	return e
}

// apply does an entry that may be done.
func apply(t *testing.T, s api.Space, e api.Entry) (api.Space, []api.Reply) {
	t.Helper()
	behind, told, fault := Apply(s, e)
	if fault != api.OK {
		t.Fatalf("Apply of %v to %v: error %d", e, s, fault)
	}
	return behind, told
}

// taken holds the calls of an entry that may be against the plain ones.
func taken(t *testing.T, name string, e api.Entry) {
	t.Helper()
	if !plainMay(e) || !May(e) {
		t.Errorf("%s: it may not be", name)
		return
	}
	if b, fault := Put(e); fault != api.OK || !bytes.Equal(b, plainPut(e)) {
		t.Errorf("%s: Put: %x, error %d", name, b, fault)
	}
	if back, fault := Get(plainPut(e)); fault != api.OK || !sameParts(back, e) {
		t.Errorf("%s: Get: %v, error %d", name, back, fault)
	}
	asPlainly(t, name, space.New(15, 15), e)
}

// refused holds that the calls tell nothing of an entry that may not be, and that Apply does nothing with it.
func refused(t *testing.T, name string, e api.Entry) {
	t.Helper()
	if plainMay(e) || May(e) {
		t.Errorf("%s: it may be", name)
	}
	if b, fault := Put(e); fault != api.ErrArg || len(b) != 0 {
		t.Errorf("%s: Put: %x, error %d", name, b, fault)
	}
	for _, s := range []api.Space{space.New(15, 15), busy(), {}} {
		still(t, name, s, e, api.ErrArg)
	}
}

// still holds that Apply does nothing, by that error.
func still(t *testing.T, name string, s api.Space, e api.Entry, want int) {
	t.Helper()
	if behind, told, fault := Apply(s, e); fault != want || !sameSpace(behind, s) || len(told) != 0 {
		t.Errorf("%s: Apply: %v, told %v, error %d, want %d", name, behind, told, fault, want)
	}
}

// asPlainly holds Apply against the plain one.
func asPlainly(t *testing.T, name string, s api.Space, e api.Entry) {
	t.Helper()
	behind, told, fault := Apply(s, e)
	want, wantTold, wantFault := plainApply(s, e)
	if fault != wantFault || !sameSpace(behind, want) || !sameTold(told, wantTold) {
		t.Fatalf("%s: %v\n%v\n%v, want %v\ntold %v, want %v\nerror %d, want %d", name, s, e, behind, want, told, wantTold, fault, wantFault)
	}
}

// nothing holds that Get takes no such bytes, and tells nothing of them.
func nothing(t *testing.T, name string, b []byte) {
	t.Helper()
	if e, fault := Get(b); fault != api.ErrBad || !sameParts(e, api.Entry{}) {
		t.Errorf("%s: %v, error %d", name, e, fault)
	}
}

// alike holds Get against the plain one: it takes just what Put makes.
func alike(t *testing.T, b []byte) {
	t.Helper()
	want, ok := plainGet(b)
	e, fault := Get(b)
	if !ok {
		if fault != api.ErrBad || !sameParts(e, api.Entry{}) {
			t.Fatalf("%x: %v, error %d", b, e, fault)
		}
		return
	}
	if fault != api.OK || !sameParts(e, want) {
		t.Fatalf("%x: %v, error %d, want %v", b, e, fault, want)
	}
	if again := put(t, e); !bytes.Equal(again, b) {
		t.Fatalf("%x: written again: %x", b, again)
	}
}

// busy is a space that may be, with something in each part.
func busy() api.Space {
	s := space.New(13, 7)
	s.Now = 9
	s.Items = []api.Item{
		{Owner: 2, Until: 12, T: list(number(5), text("five"))},
		{Owner: 0, T: list(text(""))},
		{Owner: 1, Until: 10, T: list(number(4))},
	}
	s.Waiters = []api.Waiter{
		{Client: 1, Seq: 4, Take: true, P: list(api.Field{Kind: api.AText}, number(3))},
		{Client: 0, Seq: 2, P: list(text("z"))},
	}
	s.Last[0] = api.Reply{Client: 0, Seq: 6, Kind: api.RTuple, T: list(number(-1)), Late: true}
	s.Last[1] = api.Reply{Client: 1, Seq: 4, Kind: api.RWaits}
	return s
}

// few are one or two of few fields, so that much matches.
func few(chance *rand.Rand, template bool) []api.Field {
	from := list(number(1), number(2), text("a"), text("b"))
	if template {
		from = append(from, anyOne, api.Field{Kind: api.AInt}, api.Field{Kind: api.AText})
	}
	l := make([]api.Field, 1+chance.Intn(2))
	for n := range l {
		l[n] = from[chance.Intn(len(from))]
	}
	return l
}

// randomRequest is one of any kind that may be.
func randomRequest(chance *rand.Rand, client, seq int) api.Request {
	r := api.Request{Client: client, Seq: seq, Kind: 1 + chance.Intn(8)}
	if r.Kind != api.Out && r.Kind != api.Nop {
		r.P = few(chance, true)
	}
	if r.Kind == api.Out || r.Kind == api.Cas || r.Kind == api.Replace {
		r.T = few(chance, false)
		r.Lease = []int{0, 1, 1 + chance.Intn(6), 1 << 40}[chance.Intn(4)]
	}
	return r
}

// randomEntry is one that may be, with numbers that mostly go on from the space's, and a time from its time on.
func randomEntry(chance *rand.Rand, s api.Space) api.Entry {
	e := api.Entry{Now: min(1<<40, s.Now+[]int{0, 0, 1, 2, 7}[chance.Intn(5)])}
	var next [4]int
	for c := range next {
		next[c] = s.Last[c].Seq
	}
	for range 1 + chance.Intn(8) {
		c := chance.Intn(4)
		next[c] = max(1, next[c]+[]int{-1, 0, 1, 1, 1, 1, 1, 2}[chance.Intn(8)])
		e.List = append(e.List, randomRequest(chance, c, next[c]))
	}
	return e
}

// anyEntry is one that may be, of numbers at their edges ever and again.
func anyEntry(chance *rand.Rand) api.Entry {
	e := api.Entry{Now: []int{0, 1 << 40, chance.Intn(1<<40) >> chance.Intn(40)}[chance.Intn(3)]}
	for range 1 + chance.Intn(8) {
		seq := []int{1, 1 << 30, 1 + chance.Intn(1<<30)>>chance.Intn(30)}[chance.Intn(3)]
		e.List = append(e.List, randomRequest(chance, chance.Intn(4), seq))
	}
	return e
}

// rights are mostly all of them.
func rights(chance *rand.Rand) int {
	if chance.Intn(3) == 0 {
		return chance.Intn(16)
	}
	return 15
}

// played is what a chain of requests makes of a new space.
func played(chance *rand.Rand) api.Space {
	s := space.New(rights(chance), rights(chance))
	for range chance.Intn(60) {
		c := chance.Intn(4)
		s, _ = space.Do(s, s.Now+chance.Intn(2), randomRequest(chance, c, s.Last[c].Seq+1))
	}
	return s
}
