package space

import (
	"math"
	"slices"
	"testing"

	"chirograph/api"
)

// deed is one call of Do at time 10: what is other than in start ahead of it, what is asked, what is told, what is other in the space then.
type deed struct {
	name  string
	ahead func(s *api.Space)
	r     api.Request
	told  []api.Reply
	then  func(s *api.Space)
}

func start() api.Space {
	s := New(15, 15)
	s.Now = 10
	s.Items = []api.Item{
		{Owner: 0, T: list(text("a"), number(1))},
		{Owner: 1, T: list(text("b"))},
		{Owner: 2, T: list(text("a"), number(2))},
		{Owner: 3, T: list(text("b"))},
	}
	return s
}

func asIs(s *api.Space) {}

// check does the deed, and holds all that comes out against what is said of it.
func (k deed) check(t *testing.T) {
	t.Helper()
	k.checkAt(t, 10)
}

func (k deed) checkAt(t *testing.T, now int) {
	t.Helper()
	s := start()
	k.ahead(&s)
	if !May(s) {
		t.Errorf("%s: a test that is wrong: its space may not be", k.name)
	}
	want := copySpace(s)
	want.Now = now
	k.then(&want)
	got, told := Do(s, now, k.r)
	if !sameTold(told, k.told) {
		t.Errorf("%s: told %v, want %v", k.name, told, k.told)
	}
	if !sameParts(got, want) {
		t.Errorf("%s: %v, want %v", k.name, got, want)
	}
}

// The requests of the tests are client 1's, number 7.

func asks(kind int, p ...api.Field) api.Request {
	return api.Request{Client: 1, Seq: 7, Kind: kind, P: p}
}

func brings(kind int, p []api.Field, l ...api.Field) api.Request {
	return api.Request{Client: 1, Seq: 7, Kind: kind, P: p, T: l}
}

func leased(r api.Request, lease int) api.Request {
	r.Lease = lease
	return r
}

func says(kind int) api.Reply { return api.Reply{Client: 1, Seq: 7, Kind: kind} }

func gives(l ...api.Field) api.Reply {
	return api.Reply{Client: 1, Seq: 7, Kind: api.RTuple, T: l}
}

func late(client, seq int, l ...api.Field) api.Reply {
	return api.Reply{Client: client, Seq: seq, Kind: api.RTuple, T: l, Late: true}
}

// lasts sets last replies, and goes on.
func lasts(l []api.Reply, more func(s *api.Space)) func(s *api.Space) {
	return func(s *api.Space) {
		for _, reply := range l {
			s.Last[reply.Client] = reply
		}
		more(s)
	}
}

// one is a deed with r's reply alone, which is its client's last one then.
func one(name string, ahead func(s *api.Space), r api.Request, told api.Reply, then func(s *api.Space)) deed {
	return deed{name, ahead, r, []api.Reply{told}, lasts([]api.Reply{told}, then)}
}

// comes is the tuple as the last item.
func comes(owner, until int, l ...api.Field) func(s *api.Space) {
	return func(s *api.Space) { s.Items = append(s.Items, api.Item{Owner: owner, Until: until, T: l}) }
}

// goes is the items without the one at that place.
func goes(at int, more func(s *api.Space)) func(s *api.Space) {
	return func(s *api.Space) {
		s.Items = slices.Delete(s.Items, at, at+1)
		more(s)
	}
}

// holds is a space with these items.
func holds(l ...[]api.Item) func(s *api.Space) {
	return func(s *api.Space) { s.Items = slices.Concat(l...) }
}

// waits is a space with these who wait.
func waits(l ...api.Waiter) func(s *api.Space) { return func(s *api.Space) { s.Waiters = l } }

// Promise 8.2: Out.
func TestOut(t *testing.T) {
	c, out := text("c"), brings(api.Out, nil, text("c"))
	for _, k := range []deed{
		one("out", asIs, out, says(api.RDone), comes(1, 0, c)),
		one("out of what is there already", asIs, brings(api.Out, nil, text("b")), says(api.RDone), comes(1, 0, text("b"))),
		one("into nothing", holds(), out, says(api.RDone), comes(1, 0, c)),
		one("lease 1", asIs, leased(out, 1), says(api.RDone), comes(1, 11, c)),
		one("lease 5", asIs, leased(out, 5), says(api.RDone), comes(1, 15, c)),
		one("the longest lease", asIs, leased(out, 1<<40), says(api.RDone), comes(1, 10+1<<40, c)),
		one("the longest tuple", asIs, brings(api.Out, nil, c, c, c, c, c, number(-1)), says(api.RDone), comes(1, 0, c, c, c, c, c, number(-1))),
		one("63 items", holds(itemsOf(0, 24), itemsOf(1, 23), itemsOf(2, 16)), out, says(api.RDone), comes(1, 0, c)),
		one("64 items", holds(itemsOf(0, 24), itemsOf(1, 23), itemsOf(2, 17)), out, says(api.RFull), asIs),
		one("64 items, none of its own", holds(itemsOf(0, 24), itemsOf(3, 24), itemsOf(2, 16)), out, says(api.RFull), asIs),
		one("23 of its own", holds(itemsOf(1, 23)), out, says(api.RDone), comes(1, 0, c)),
		one("24 of its own", holds(itemsOf(1, 24)), out, says(api.RFull), asIs),
		one("24 of its own between others", holds(itemsOf(1, 12), itemsOf(3, 9), itemsOf(1, 12)), out, says(api.RFull), asIs),
		one("24 of another", holds(itemsOf(2, 24)), out, says(api.RDone), comes(1, 0, c)),
		one("no room, though one waits for it", func(s *api.Space) {
			s.Items, s.Waiters = itemsOf(1, 24), []api.Waiter{{Client: 2, Seq: 3, Take: true, P: list(anyOne)}}
		}, out, says(api.RFull), asIs),
	} {
		k.check(t)
	}
	one("the longest lease at the last time", asIs, leased(out, 1<<40), says(api.RDone), comes(1, 1<<41, c)).checkAt(t, 1<<40)
}

// Promise 8.2: Rdp, Inp, Rd, In where one matches: the first one, whoever brought it.
func TestOneMatches(t *testing.T) {
	for _, kind := range []int{api.Rdp, api.Inp, api.Rd, api.In} {
		then := func(at int) func(s *api.Space) {
			if kind == api.Inp || kind == api.In {
				return goes(at, asIs)
			}
			return asIs
		}
		name := kindNames[kind] + ": "
		for _, k := range []deed{
			one(name+"the first of two", asIs, asks(kind, text("a"), anyNumber), gives(text("a"), number(1)), then(0)),
			one(name+"two alike", asIs, asks(kind, text("b")), gives(text("b")), then(1)),
			one(name+"one behind others", asIs, asks(kind, anyText, number(2)), gives(text("a"), number(2)), then(2)),
			one(name+"the last one", holds(itemsOf(0, 10), []api.Item{{Owner: 3, Until: 50, T: list(number(7))}}), asks(kind, anyOne), gives(number(7)), then(10)),
			one(name+"with all that may wait", waits(waitersOf(16)...), asks(kind, anyOne), gives(text("b")), then(1)),
			one(name+"while others wait for the same", waits(api.Waiter{Client: 0, Seq: 3, Take: true, P: list(anyOne)}), asks(kind, anyOne), gives(text("b")), then(1)),
		} {
			k.check(t)
		}
	}
}

// Promise 8.2: Rdp, Inp, Rd, In where none matches.
func TestNoneMatches(t *testing.T) {
	for _, p := range [][]api.Field{list(text("c")), list(number(1), text("a")), list(anyOne, anyOne, anyOne), list(anyNumber)} {
		for _, k := range []deed{
			one("Rdp", asIs, asks(api.Rdp, p...), says(api.RNone), asIs),
			one("Inp", asIs, asks(api.Inp, p...), says(api.RNone), asIs),
			one("Rdp of nothing", holds(), asks(api.Rdp, p...), says(api.RNone), asIs),
			one("Inp with all that may wait", waits(waitersOf(16)...), asks(api.Inp, p...), says(api.RNone), asIs),
			one("Rd", asIs, asks(api.Rd, p...), says(api.RWaits), waits(api.Waiter{Client: 1, Seq: 7, P: p})),
			one("In", asIs, asks(api.In, p...), says(api.RWaits), waits(api.Waiter{Client: 1, Seq: 7, Take: true, P: p})),
			one("Rd behind 15", waits(waitersOf(15)...), asks(api.Rd, p...), says(api.RWaits), waits(append(waitersOf(15), api.Waiter{Client: 1, Seq: 7, P: p})...)),
			one("In behind 15", waits(waitersOf(15)...), asks(api.In, p...), says(api.RWaits), waits(append(waitersOf(15), api.Waiter{Client: 1, Seq: 7, Take: true, P: p})...)),
			one("Rd behind 16", waits(waitersOf(16)...), asks(api.Rd, p...), says(api.RFull), asIs),
			one("In behind 16", waits(waitersOf(16)...), asks(api.In, p...), says(api.RFull), asIs),
			one("In where there is no room for tuples", holds(itemsOf(0, 24), itemsOf(1, 24), itemsOf(2, 16)), asks(api.In, append(p, text("far"), text("off"))...), says(api.RWaits), waits(api.Waiter{Client: 1, Seq: 7, Take: true, P: append(p, text("far"), text("off"))})),
		} {
			k.check(t)
		}
	}
}

// Promise 8.2: Cas.
func TestCas(t *testing.T) {
	c := text("c")
	cas := brings(api.Cas, list(c), c)
	for _, k := range []deed{
		one("none matches", asIs, cas, says(api.RDone), comes(1, 0, c)),
		one("with a lease", asIs, leased(cas, 5), says(api.RDone), comes(1, 15, c)),
		one("one matches", asIs, brings(api.Cas, list(text("b")), c), says(api.RNone), asIs),
		one("T is there, P is not", asIs, brings(api.Cas, list(c), text("b")), says(api.RDone), comes(1, 0, text("b"))),
		one("T alone would match P", asIs, brings(api.Cas, list(anyNumber), number(3)), says(api.RDone), comes(1, 0, number(3))),
		one("64 items", holds(itemsOf(0, 24), itemsOf(3, 24), itemsOf(2, 16)), cas, says(api.RFull), asIs),
		one("24 of its own", holds(itemsOf(1, 24)), cas, says(api.RFull), asIs),
		one("23 of its own", holds(itemsOf(1, 23)), cas, says(api.RDone), comes(1, 0, c)),
		one("64 items, and one matches", holds(itemsOf(0, 24), itemsOf(3, 24), itemsOf(2, 16)), brings(api.Cas, list(anyText, anyNumber), c), says(api.RNone), asIs),
		one("24 of its own, and one matches", holds(itemsOf(1, 24)), brings(api.Cas, list(anyText, anyNumber), c), says(api.RNone), asIs),
	} {
		k.check(t)
	}
}

// Promise 8.2: Replace.
func TestReplace(t *testing.T) {
	c := text("c")
	first := brings(api.Replace, list(text("a"), anyNumber), c)
	for _, k := range []deed{
		one("none matches", asIs, brings(api.Replace, list(c), c), says(api.RNone), asIs),
		one("the first of two", asIs, first, gives(text("a"), number(1)), goes(0, comes(1, 0, c))),
		one("its own", asIs, brings(api.Replace, list(text("b")), c), gives(text("b")), goes(1, comes(1, 0, c))),
		one("by the same", asIs, brings(api.Replace, list(text("b")), text("b")), gives(text("b")), goes(1, comes(1, 0, text("b")))),
		one("with a lease", asIs, leased(first, 5), gives(text("a"), number(1)), goes(0, comes(1, 15, c))),
		one("what was leased, for good", func(s *api.Space) { s.Items[0].Until = 99 }, first, gives(text("a"), number(1)), goes(0, comes(1, 0, c))),
		one("23 of its own, another's goes", holds(itemsOf(0, 1), itemsOf(1, 23)), brings(api.Replace, list(text("item"), number(0)), c), gives(text("item"), number(0)), goes(0, comes(1, 0, c))),
		one("24 of its own, another's would go", holds(itemsOf(0, 1), itemsOf(1, 24)), brings(api.Replace, list(text("item"), anyNumber), c), says(api.RFull), asIs),
		one("24 of its own, one of them goes", holds(itemsOf(1, 24), itemsOf(2, 1)), brings(api.Replace, list(text("item"), anyNumber), c), gives(text("item"), number(100)), goes(0, comes(1, 0, c))),
		one("24 of its own, the first one that matches is another's", holds(itemsOf(0, 1), itemsOf(1, 24)), brings(api.Replace, list(text("item"), anyNumber), c), says(api.RFull), asIs),
		one("24 of its own, none matches", holds(itemsOf(1, 24)), brings(api.Replace, list(c), c), says(api.RNone), asIs),
		one("64 items", holds(itemsOf(0, 24), itemsOf(3, 24), itemsOf(2, 16)), brings(api.Replace, list(text("item"), number(303)), c), gives(text("item"), number(303)), goes(27, comes(1, 0, c))),
	} {
		k.check(t)
	}
}

// Promise 8.2: Nop.
func TestNop(t *testing.T) {
	for _, k := range []deed{
		one("nop", asIs, asks(api.Nop), says(api.RDone), asIs),
		one("of a full space", func(s *api.Space) {
			s.Items, s.Waiters = slices.Concat(itemsOf(0, 24), itemsOf(1, 24), itemsOf(2, 16)), waitersOf(16)
		}, asks(api.Nop), says(api.RDone), asIs),
		one("without rights", func(s *api.Space) { s.Read, s.Write = 0, 0 }, asks(api.Nop), says(api.RDone), asIs),
	} {
		k.check(t)
	}
}

// kindNames tells kinds by name.
var kindNames = []string{1: "Out", 2: "Rdp", 3: "Inp", 4: "Rd", 5: "In", 6: "Cas", 7: "Replace", 8: "Nop"}

// Promise 8.2: who may read, and who may write.
func TestDenied(t *testing.T) {
	for kind, needs := range [][2]bool{
		api.Out: {false, true}, api.Rdp: {true, false}, api.Inp: {true, true}, api.Rd: {true, false},
		api.In: {true, true}, api.Cas: {true, true}, api.Replace: {true, true}, api.Nop: {false, false},
	} {
		if kind == 0 {
			continue
		}
		r := api.Request{Seq: 7, Kind: kind}
		if needs[0] {
			r.P = list(anyOne, anyOne, anyOne)
		}
		if kind == api.Out || kind == api.Cas || kind == api.Replace {
			r.T = list(text("c"))
		}
		for c := range 4 {
			r.Client = c
			for rights := range 256 {
				s := start()
				s.Read, s.Write = rights%16, rights/16
				denied := needs[0] && s.Read&(1<<c) == 0 || needs[1] && s.Write&(1<<c) == 0
				want := copySpace(s)
				want.Last[c] = api.Reply{Client: c, Seq: 7, Kind: api.RDenied}
				got, told := Do(s, 10, r)
				if len(told) != 1 || (told[0].Kind == api.RDenied) != denied {
					t.Fatalf("%s of client %d, rights %d, %d: told %v", kindNames[kind], c, s.Read, s.Write, told)
				}
				if denied && (!sameParts(got, want) || !sameTold(told, want.Last[c:c+1])) {
					t.Fatalf("%s of client %d: told %v, %v", kindNames[kind], c, told, got)
				}
			}
		}
	}
}

// Promise 8.2: who may not is told so, whatever else there is to say.
func TestDeniedAheadOfAll(t *testing.T) {
	full := func(s *api.Space) {
		s.Read, s.Write = 13, 13
		s.Items, s.Waiters = slices.Concat(itemsOf(0, 24), itemsOf(1, 24), itemsOf(2, 16)), waitersOf(16)
	}
	for _, r := range []api.Request{
		brings(api.Out, nil, text("c")),
		asks(api.Rdp, anyOne), asks(api.Inp, anyOne), asks(api.Rd, anyOne), asks(api.In, anyOne),
		asks(api.Inp, anyText, anyNumber), asks(api.In, anyText, anyNumber),
		brings(api.Cas, list(text("item"), anyOne), text("c")), brings(api.Cas, list(text("c")), text("c")),
		brings(api.Replace, list(text("c")), text("c")), brings(api.Replace, list(text("item"), anyOne), text("c")),
	} {
		one(kindNames[r.Kind], full, r, says(api.RDenied), asIs).check(t)
	}
}

// Promise 8.2: a number below the last one, and the last one again: nothing is done, whatever is asked now.
func TestAskedAgain(t *testing.T) {
	lastOnes := []api.Reply{
		says(api.RDone), gives(text("z"), number(5)), says(api.RNone), says(api.RWaits), says(api.RFull), says(api.RDenied), late(1, 7, text("z")),
	}
	for _, last := range lastOnes {
		for kind, r := range []api.Request{
			api.Out: brings(api.Out, nil, text("c")),
			api.Rdp: asks(api.Rdp, anyOne), api.Inp: asks(api.Inp, anyOne),
			api.Rd: asks(api.Rd, text("c")), api.In: asks(api.In, anyOne),
			api.Cas: brings(api.Cas, list(text("c")), text("c")), api.Replace: brings(api.Replace, list(anyOne), text("c")),
			api.Nop: asks(api.Nop),
		} {
			if kind == 0 {
				continue
			}
			ahead := lasts([]api.Reply{last}, func(s *api.Space) { s.Read, s.Write = 13, 5 })
			deed{"again", ahead, r, []api.Reply{last}, asIs}.check(t)
			r.Seq = 6
			deed{"below", ahead, r, []api.Reply{{Client: 1, Seq: 6, Kind: api.ROld}}, asIs}.check(t)
			r.Seq = 1
			deed{"far below", ahead, r, []api.Reply{{Client: 1, Seq: 1, Kind: api.ROld}}, asIs}.check(t)
		}
	}
}

// Promise 8.2: each client's numbers are its own; they may leap, up to the last one.
func TestNumbers(t *testing.T) {
	others := func(s *api.Space) {
		for _, c := range []int{0, 2, 3} {
			s.Last[c] = api.Reply{Client: c, Seq: 1 << 30, Kind: api.RDone}
		}
		s.Last[1] = api.Reply{Client: 1, Seq: 6, Kind: api.RNone}
	}
	one("the next one", others, asks(api.Nop), says(api.RDone), asIs).check(t)
	leap := asks(api.Rdp, text("b"))
	leap.Seq = 1 << 30
	told := api.Reply{Client: 1, Seq: 1 << 30, Kind: api.RTuple, T: list(text("b"))}
	one("the last number", others, leap, told, asIs).check(t)
	deed{"the last number again", lasts([]api.Reply{told}, asIs), leap, []api.Reply{told}, asIs}.check(t)
}

// Promise 8.2: what lasted up to now is gone ahead of all else, of numbers that were done, too.
func TestTime(t *testing.T) {
	timed := func(s *api.Space) {
		s.Items = []api.Item{
			{Owner: 1, Until: 19, T: list(text("gone"))},
			{Owner: 2, T: list(text("stays"))},
			{Owner: 1, Until: 20, T: list(text("gone"))},
			{Owner: 0, Until: 21, T: list(text("stays"))},
			{Owner: 1, Until: 11, T: list(text("gone"), number(1))},
			{Owner: 1, Until: 1 << 41, T: list(text("gone"), number(2))},
		}
	}
	left := func(s *api.Space) {
		s.Items = []api.Item{s.Items[1], s.Items[3], s.Items[5]}
	}
	timedAnd := func(last api.Reply) func(s *api.Space) { return lasts([]api.Reply{last}, timed) }
	for _, k := range []deed{
		one("nop", timed, asks(api.Nop), says(api.RDone), left),
		one("none is there any more", timed, asks(api.Inp, text("gone")), says(api.RNone), left),
		one("the first one that is left", timed, asks(api.Rdp, text("gone"), anyNumber), gives(text("gone"), number(2)), left),
		one("denied", func(s *api.Space) { timed(s); s.Read = 0 }, asks(api.Rdp, text("gone")), says(api.RDenied), left),
		{"the last number again", timedAnd(gives(text("gone"))), asks(api.Rdp, text("gone")), []api.Reply{gives(text("gone"))}, left},
		{"an old number", timedAnd(api.Reply{Client: 1, Seq: 8, Kind: api.RDone}), asks(api.Nop), []api.Reply{says(api.ROld)}, left},
		one("waiters stay", func(s *api.Space) { timed(s); s.Waiters = waitersOf(2) }, asks(api.Nop), says(api.RDone), left),
	} {
		k.checkAt(t, 20)
	}
	passing := func(l []api.Item) []api.Item { l[5].Until = 20; return l }
	c, out := text("c"), brings(api.Out, nil, text("c"))
	one("room comes", holds(itemsOf(0, 24), passing(itemsOf(2, 24)), itemsOf(3, 16)), out, says(api.RDone), goes(29, comes(1, 0, c))).checkAt(t, 20)
	one("room of one's own comes", holds(passing(itemsOf(1, 24))), leased(out, 3), says(api.RDone), goes(5, comes(1, 23, c))).checkAt(t, 20)
	one("not yet", holds(passing(itemsOf(1, 24))), out, says(api.RFull), asIs).checkAt(t, 19)
	one("all of it at the last time", func(s *api.Space) { s.Items[1].Until = 1 << 40; s.Items[2].Until = 1<<40 + 1 }, asks(api.Nop), says(api.RDone), goes(1, asIs)).checkAt(t, 1<<40)
}

// whoWaits are some with numbers ahead of, and at, their clients' last ones.
func whoWaits(s *api.Space) {
	s.Last[0] = api.Reply{Client: 0, Seq: 4, Kind: api.RWaits}
	s.Last[2] = api.Reply{Client: 2, Seq: 9, Kind: api.RNone}
	s.Last[3] = api.Reply{Client: 3, Seq: 2, Kind: api.RWaits}
	s.Waiters = []api.Waiter{
		{Client: 0, Seq: 3, P: list(text("w"), number(1))},
		{Client: 0, Seq: 4, P: list(text("w"), anyOne)},
		{Client: 2, Seq: 8, P: list(anyText, number(1))},
		{Client: 3, Seq: 1, Take: true, P: list(text("v"), anyOne)},
		{Client: 3, Seq: 2, Take: true, P: list(text("w"), anyNumber)},
		{Client: 2, Seq: 5, P: list(text("w"), anyOne)},
		{Client: 0, Seq: 2, Take: true, P: list(anyOne, anyOne)},
	}
}

// wakes is a deed that tells those who wait, too: own first.
func wakes(name string, ahead func(s *api.Space), r api.Request, own api.Reply, told []api.Reply, then func(s *api.Space)) deed {
	return deed{name, ahead, r, slices.Concat([]api.Reply{own}, told), lasts([]api.Reply{own}, then)}
}

// Promise 8.2: who waits is asked, the first one first, up to one that takes.
func TestWake(t *testing.T) {
	w1, w2 := list(text("w"), number(1)), list(text("w"), number(2))
	stay := func(at ...int) func(s *api.Space) {
		return func(s *api.Space) {
			all := s.Waiters
			s.Waiters = nil
			for _, i := range at {
				s.Waiters = append(s.Waiters, all[i])
			}
		}
	}
	with := func(l ...func(s *api.Space)) func(s *api.Space) {
		return func(s *api.Space) {
			for _, one := range l {
				one(s)
			}
		}
	}
	noted := func(l ...api.Reply) func(s *api.Space) { return lasts(l, asIs) }
	readers := with(whoWaits, stay(0, 1, 2, 3, 5))
	far := list(text("a"), anyNumber)
	for _, k := range []deed{
		wakes("up to the one that takes", whoWaits, brings(api.Out, nil, w1...), says(api.RDone),
			[]api.Reply{late(0, 3, w1...), late(0, 4, w1...), late(2, 8, w1...), late(3, 2, w1...)},
			with(stay(3, 5, 6), noted(late(0, 4, w1...), late(3, 2, w1...)))),
		wakes("not those whom it does not match", whoWaits, brings(api.Out, nil, w2...), says(api.RDone),
			[]api.Reply{late(0, 4, w2...), late(3, 2, w2...)},
			with(stay(0, 2, 3, 5, 6), noted(late(0, 4, w2...), late(3, 2, w2...)))),
		wakes("none takes", readers, leased(brings(api.Out, nil, w1...), 5), says(api.RDone),
			[]api.Reply{late(0, 3, w1...), late(0, 4, w1...), late(2, 8, w1...), late(2, 5, w1...)},
			with(stay(3), noted(late(0, 4, w1...)), comes(1, 15, w1...))),
		one("none matches", readers, brings(api.Out, nil, text("w")), says(api.RDone), comes(1, 0, text("w"))),
		wakes("by Cas", whoWaits, brings(api.Cas, list(text("c")), w2...), says(api.RDone),
			[]api.Reply{late(0, 4, w2...), late(3, 2, w2...)},
			with(stay(0, 2, 3, 5, 6), noted(late(0, 4, w2...), late(3, 2, w2...)))),
		wakes("by Replace", whoWaits, brings(api.Replace, far, w2...), gives(text("a"), number(1)),
			[]api.Reply{late(0, 4, w2...), late(3, 2, w2...)},
			with(stay(0, 2, 3, 5, 6), noted(late(0, 4, w2...), late(3, 2, w2...)), goes(0, asIs))),
		wakes("by Replace, none takes", readers, leased(brings(api.Replace, far, w2...), 1), gives(text("a"), number(1)),
			[]api.Reply{late(0, 4, w2...), late(2, 5, w2...)},
			with(stay(0, 2, 3), noted(late(0, 4, w2...)), goes(0, comes(1, 11, w2...)))),
		one("not by Cas that finds one", whoWaits, brings(api.Cas, far, w2...), says(api.RNone), asIs),
		one("not by Replace that finds none", whoWaits, brings(api.Replace, list(text("c")), w2...), says(api.RNone), asIs),
		one("not by a tuple that goes", whoWaits, asks(api.Inp, anyOne), gives(text("b")), goes(1, asIs)),
		one("not by a denied one", with(whoWaits, func(s *api.Space) { s.Write = 13 }), brings(api.Out, nil, w1...), says(api.RDenied), asIs),
	} {
		k.check(t)
	}
}

// Promise 8.2: who is told late has its Last changed where it is of the same number alone; r's own is noted ahead of that.
func TestWakeOfOneself(t *testing.T) {
	w, out := list(text("w")), brings(api.Out, nil, text("w"))
	mine := func(seq int, take bool) func(s *api.Space) {
		return func(s *api.Space) {
			s.Last[1] = api.Reply{Client: 1, Seq: 6, Kind: api.RWaits}
			s.Waiters = []api.Waiter{{Client: 1, Seq: seq, Take: take, P: w}}
		}
	}
	none := waits()
	took := func(last api.Reply) func(s *api.Space) { return lasts([]api.Reply{last}, none) }
	for _, k := range []deed{
		wakes("its own last one, which is not the last one any more", mine(6, true), out, says(api.RDone), []api.Reply{late(1, 6, w...)}, none),
		wakes("of its own number", mine(7, true), out, says(api.RDone), []api.Reply{late(1, 7, w...)}, took(late(1, 7, w...))),
		wakes("of its own number, reading", mine(7, false), out, says(api.RDone), []api.Reply{late(1, 7, w...)}, lasts([]api.Reply{late(1, 7, w...)}, func(s *api.Space) { none(s); comes(1, 0, w...)(s) })),
		wakes("of a number to come", mine(8, true), out, says(api.RDone), []api.Reply{late(1, 8, w...)}, none),
	} {
		k.check(t)
	}
}

// Promise 8.2: all 16 may be told at once, and the place of one who was told is free.
func TestWakeAll(t *testing.T) {
	s := New(15, 15)
	told := []api.Reply{says(api.RDone)}
	for n := range 16 {
		s.Waiters = append(s.Waiters, api.Waiter{Client: n % 4, Seq: n + 10, P: list(anyText)})
		told = append(told, late(n%4, n+10, text("c")))
	}
	next, got := Do(s, 0, brings(api.Out, nil, text("c")))
	if !sameTold(got, told) || len(next.Waiters) != 0 || len(next.Items) != 1 {
		t.Errorf("told %v, then %v", got, next)
	}
	next, got = Do(next, 0, api.Request{Client: 2, Seq: 1, Kind: api.In, P: list(anyNumber)})
	if len(got) != 1 || got[0].Kind != api.RWaits || len(next.Waiters) != 1 {
		t.Errorf("told %v, then %v", got, next)
	}
}

// Promise 8.2: the document's examples: in, then out; the same request again.
func TestInThenOut(t *testing.T) {
	in := api.Request{Client: 2, Seq: 1, Kind: api.In, P: list(anyNumber)}
	out := api.Request{Client: 0, Seq: 1, Kind: api.Out, T: list(number(7))}
	waiting := api.Reply{Client: 2, Seq: 1, Kind: api.RWaits}
	done := api.Reply{Client: 0, Seq: 1, Kind: api.RDone}
	s := New(15, 15)
	for _, k := range []struct {
		r    api.Request
		told []api.Reply
	}{
		{in, []api.Reply{waiting}},
		{in, []api.Reply{waiting}},
		{out, []api.Reply{done, late(2, 1, number(7))}},
		{out, []api.Reply{done}},
		{in, []api.Reply{late(2, 1, number(7))}},
	} {
		var told []api.Reply
		if s, told = Do(s, 5, k.r); !sameTold(told, k.told) {
			t.Errorf("told %v, want %v", told, k.told)
		}
	}
	want := New(15, 15)
	want.Now, want.Last[0], want.Last[2] = 5, done, late(2, 1, number(7))
	if !sameParts(s, want) {
		t.Errorf("%v", s)
	}
}

// Promise 8.2: s as it is, and no replies, of all that may not be, whatever else there would be to do.
func TestNotDone(t *testing.T) {
	timed := func() api.Space {
		s := whole()
		s.Items[1].Until = 105
		return s
	}
	good := asks(api.Nop)
	notDone := func(name string, s api.Space, now int, r api.Request) {
		t.Helper()
		if got, told := Do(s, now, r); !sameParts(got, s) || len(told) != 0 {
			t.Errorf("%s: told %v, %v", name, told, got)
		}
	}
	for _, now := range []int{99, 0, -1, math.MinInt, 1<<40 + 1, 1 << 41, math.MaxInt} {
		notDone("a time that may not be", timed(), now, good)
	}
	for name, turn := range map[string]func(r *api.Request){
		"client 4":       func(r *api.Request) { r.Client = 4 },
		"client -1":      func(r *api.Request) { r.Client = -1 },
		"client 2^62":    func(r *api.Request) { r.Client = 1 << 62 },
		"number 0":       func(r *api.Request) { r.Seq = 0 },
		"number -1":      func(r *api.Request) { r.Seq = -1 },
		"number 2^30 +1": func(r *api.Request) { r.Seq = 1<<30 + 1 },
		"kind 0":         func(r *api.Request) { r.Kind = 0 },
		"kind 9":         func(r *api.Request) { r.Kind = 9 },
		"Nop with P":     func(r *api.Request) { r.P = list(anyOne) },
		"Nop with T":     func(r *api.Request) { r.T = list(number(1)) },
		"Nop, leased":    func(r *api.Request) { r.Lease = 1 },
		"Out without T":  func(r *api.Request) { r.Kind = api.Out },
		"Out of any":     func(r *api.Request) { r.Kind, r.T = api.Out, list(anyOne) },
		"Out, lease -1":  func(r *api.Request) { r.Kind, r.T, r.Lease = api.Out, list(number(1)), -1 },
		"Out, too long":  func(r *api.Request) { r.Kind, r.T, r.Lease = api.Out, list(number(1)), 1<<40+1 },
		"In without P":   func(r *api.Request) { r.Kind = api.In },
		"an old kind 0":  func(r *api.Request) { r.Client, r.Kind = 0, 0 },
	} {
		r := good
		turn(&r)
		notDone(name, timed(), 110, r)
	}
	for _, k := range spaceTurns() {
		s := whole()
		k.do(&s)
		if !k.want {
			notDone(k.name, s, max(s.Now, 100), good)
		}
	}
	notDone("nothing", api.Space{}, 0, good)
}
