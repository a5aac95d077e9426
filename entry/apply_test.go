package entry

import (
	"math/rand"
	"reflect"
	"slices"
	"testing"

	"chirograph/api"
	"chirograph/space"
)

func told(client, seq, kind int, t ...api.Field) api.Reply {
	return api.Reply{Client: client, Seq: seq, Kind: kind, T: t}
}

func late(client, seq int, t ...api.Field) api.Reply {
	return api.Reply{Client: client, Seq: seq, Kind: api.RTuple, T: t, Late: true}
}

// Promise 11.2: what entries do, and what is told, written out.
func TestApply(t *testing.T) {
	seven, a := number(7), text("a")
	for _, k := range []struct {
		name    string
		e       api.Entry
		told    []api.Reply
		items   []api.Item
		waiters []api.Waiter
	}{
		{name: "one Nop", e: at(5, nop(0, 1)), told: []api.Reply{told(0, 1, api.RDone)}},
		{
			name:  "one Out",
			e:     at(5, out(3, 1, seven)),
			told:  []api.Reply{told(3, 1, api.RDone)},
			items: []api.Item{{Owner: 3, T: list(seven)}},
		},
		{
			name: "in, then out",
			e:    at(5, ask(0, 1, api.In, anyOne), out(1, 1, seven)),
			told: []api.Reply{told(0, 1, api.RWaits), told(1, 1, api.RDone), late(0, 1, seven)},
		},
		{
			name: "out, then in",
			e:    at(5, out(1, 1, seven), ask(0, 1, api.In, anyOne)),
			told: []api.Reply{told(1, 1, api.RDone), told(0, 1, api.RTuple, seven)},
		},
		{
			name:  "late ones stand behind what brought them",
			e:     at(5, ask(0, 1, api.Rd, anyOne), ask(1, 1, api.Rd, seven), out(2, 1, seven), nop(3, 1), out(2, 2, a)),
			told:  []api.Reply{told(0, 1, api.RWaits), told(1, 1, api.RWaits), told(2, 1, api.RDone), late(0, 1, seven), late(1, 1, seven), told(3, 1, api.RDone), told(2, 2, api.RDone)},
			items: []api.Item{{Owner: 2, T: list(seven)}, {Owner: 2, T: list(a)}},
		},
		{
			name:    "who still waits",
			e:       at(5, ask(2, 9, api.In, a), out(2, 10, seven)),
			told:    []api.Reply{told(2, 9, api.RWaits), told(2, 10, api.RDone)},
			items:   []api.Item{{Owner: 2, T: list(seven)}},
			waiters: []api.Waiter{{Client: 2, Seq: 9, Take: true, P: list(a)}},
		},
		{
			name:  "the same one again is told the same, and does nothing",
			e:     at(5, out(0, 1, seven), out(0, 1, seven), out(0, 1, a)),
			told:  []api.Reply{told(0, 1, api.RDone), told(0, 1, api.RDone), told(0, 1, api.RDone)},
			items: []api.Item{{Owner: 0, T: list(seven)}},
		},
		{
			name:  "an older one",
			e:     at(5, out(0, 2, seven), out(0, 1, a), nop(0, 2)),
			told:  []api.Reply{told(0, 2, api.RDone), told(0, 1, api.ROld), told(0, 2, api.RDone)},
			items: []api.Item{{Owner: 0, T: list(seven)}},
		},
		{
			name:  "leases from the entry's time on",
			e:     at(5, leased(0, 1, 1, seven), ask(1, 1, api.Rdp, anyOne), leased(0, 2, 1<<40, a)),
			told:  []api.Reply{told(0, 1, api.RDone), told(1, 1, api.RTuple, seven), told(0, 2, api.RDone)},
			items: []api.Item{{Owner: 0, Until: 6, T: list(seven)}, {Owner: 0, Until: 1<<40 + 5, T: list(a)}},
		},
		{
			name: "eight, each on what the one ahead left",
			e: at(5, out(0, 1, seven), bring(1, 1, api.Cas, anyOne, a), bring(1, 2, api.Replace, seven, a), ask(2, 1, api.Inp, a),
				ask(2, 2, api.Inp, a), bring(1, 3, api.Cas, anyOne, a), bring(0, 2, api.Replace, seven, a), ask(3, 1, api.Rdp, anyOne)),
			told: []api.Reply{told(0, 1, api.RDone), told(1, 1, api.RNone), told(1, 2, api.RTuple, seven), told(2, 1, api.RTuple, a),
				told(2, 2, api.RNone), told(1, 3, api.RDone), told(0, 2, api.RNone), told(3, 1, api.RTuple, a)},
			items: []api.Item{{Owner: 1, T: list(a)}},
		},
	} {
		behind, replies := apply(t, space.New(15, 15), k.e)
		want := space.New(15, 15)
		want.Now, want.Items, want.Waiters = 5, k.items, k.waiters
		for _, reply := range k.told {
			if last := &want.Last[reply.Client]; reply.Kind != api.ROld && (!reply.Late || last.Seq == reply.Seq) {
				*last = reply
			}
		}
		if !sameSpace(behind, want) || !sameTold(replies, k.told) {
			t.Errorf("%s: %v, told %v", k.name, behind, replies)
		}
		asPlainly(t, k.name, space.New(15, 15), k.e)
	}
}

// Promise 11.2: who may not read or write is told so, and the others go on.
func TestApplyDenied(t *testing.T) {
	e := at(0, out(0, 1, number(1)), out(1, 1, number(2)), ask(1, 2, api.Rdp, anyOne), ask(0, 2, api.Rdp, anyOne), ask(0, 3, api.Inp, anyOne))
	want := []api.Reply{told(0, 1, api.RDone), told(1, 1, api.RDenied), told(1, 2, api.RTuple, number(1)), told(0, 2, api.RDenied), told(0, 3, api.RDenied)}
	behind, replies := apply(t, space.New(14, 13), e)
	if !sameTold(replies, want) || len(behind.Items) != 1 {
		t.Errorf("%v, told %v", behind, replies)
	}
}

// Promise 11.2: room is asked of each request anew.
func TestApplyFull(t *testing.T) {
	s := space.New(15, 15)
	for n := range 64 {
		s.Items = append(s.Items, api.Item{Owner: n % 3, T: list(number(int64(n)))})
	}
	e := at(0, out(3, 1, number(64)), ask(3, 2, api.Inp, number(9)), out(3, 3, number(65)), out(3, 4, number(66)))
	want := []api.Reply{told(3, 1, api.RFull), told(3, 2, api.RTuple, number(9)), told(3, 3, api.RDone), told(3, 4, api.RFull)}
	if behind, replies := apply(t, s, e); !sameTold(replies, want) || len(behind.Items) != 64 {
		t.Errorf("%v, told %v", behind, replies)
	}
}

// Promise 11.2: the entry's time is that of all of its requests: the space's then, and what is over by it is gone.
func TestApplyTime(t *testing.T) {
	s := space.New(15, 15)
	s.Now = 10
	s.Items = []api.Item{{Owner: 0, Until: 11, T: list(number(11))}, {Owner: 1, Until: 12, T: list(number(12))}, {Owner: 2, T: list(number(0))}}
	for _, k := range []struct {
		now  int
		want []int64
	}{{10, []int64{11, 12, 0}}, {11, []int64{12, 0}}, {12, []int64{0}}, {1 << 40, []int64{0}}} {
		behind, replies := apply(t, s, at(k.now, nop(0, 1), ask(1, 1, api.Rdp, anyOne)))
		var left []int64
		for _, i := range behind.Items {
			left = append(left, i.T[0].N)
		}
		if behind.Now != k.now || !slices.Equal(left, k.want) {
			t.Errorf("at %d: %v", k.now, behind)
		}
		if !sameTold(replies, []api.Reply{told(0, 1, api.RDone), told(1, 1, api.RTuple, number(k.want[0]))}) {
			t.Errorf("at %d: told %v", k.now, replies)
		}
	}
}

// Promise 11.2: time goes on also where all that is asked is old.
func TestApplyOfOldOnes(t *testing.T) {
	s := space.New(15, 15)
	s.Now, s.Items = 3, []api.Item{{Until: 5, T: list(number(1))}}
	s.Last[2] = told(2, 8, api.RNone)
	behind, replies := apply(t, s, at(5, nop(2, 7), nop(2, 8)))
	want := s
	want.Now, want.Items = 5, nil
	if !sameSpace(behind, want) || !sameTold(replies, []api.Reply{told(2, 7, api.ROld), told(2, 8, api.RNone)}) {
		t.Errorf("%v, told %v", behind, replies)
	}
}

// Promise 11.2: a time below the space's, and all that is not.
func TestApplyLink(t *testing.T) {
	for _, now := range []int{0, 1, 2, 9, 255, 256, 1 << 32, 1<<40 - 1, 1 << 40} {
		s := busy()
		s.Now, s.Items = now, nil
		for _, then := range []int{0, 1, now - 256, now - 2, now - 1, now, now + 1, now + 256, 1<<40 - 1, 1 << 40} {
			e := at(then, out(0, 7, number(1)), nop(1, 5))
			if then < 0 || then > 1<<40 {
				still(t, "no such time", s, e, api.ErrArg)
				continue
			}
			if then < now {
				still(t, "a time below", s, e, api.ErrLink)
				continue
			}
			if behind, replies := apply(t, s, e); behind.Now != then || len(replies) != 2 || len(behind.Items) != 1 {
				t.Errorf("%d, then %d: %v, told %v", now, then, behind, replies)
			}
		}
	}
}

// wrongSpaces are turns of a busy space into such as may not be.
func wrongSpaces() map[string]func(s *api.Space) {
	return map[string]func(s *api.Space){
		"nothing":                 func(s *api.Space) { *s = api.Space{} },
		"Now -1":                  func(s *api.Space) { s.Now = -1 },
		"Now -1, and bare":        func(s *api.Space) { s.Now, s.Items = -1, nil },
		"Now MaxTime + 1":         func(s *api.Space) { s.Now, s.Items = 1<<40+1, nil },
		"Now where one is over":   func(s *api.Space) { s.Now = 10 },
		"Read 16":                 func(s *api.Space) { s.Read = 16 },
		"Write -1":                func(s *api.Space) { s.Write = -1 },
		"an Owner 4":              func(s *api.Space) { s.Items[2].Owner = 4 },
		"an item without fields":  func(s *api.Space) { s.Items[0].T = nil },
		"an item of a template":   func(s *api.Space) { s.Items[1].T = list(anyOne) },
		"65 items":                func(s *api.Space) { s.Items = slices.Repeat(s.Items[1:2], 65) },
		"25 of one":               func(s *api.Space) { s.Items = slices.Repeat(s.Items[1:2], 25) },
		"17 waiters":              func(s *api.Space) { s.Waiters = slices.Repeat(s.Waiters[:1], 17) },
		"a waiter's Seq 0":        func(s *api.Space) { s.Waiters[0].Seq = 0 },
		"a waiter without fields": func(s *api.Space) { s.Waiters[1].P = nil },
		"a Last's Client":         func(s *api.Space) { s.Last[3].Client = 2 },
		"a Last's Kind":           func(s *api.Space) { s.Last[1].Kind = api.ROld },
		"a Last's T":              func(s *api.Space) { s.Last[1].T = list(number(1)) },
		"a Last of no Seq":        func(s *api.Space) { s.Last[2].Late = true },
	}
}

// Promise 11.2: a space that may not be stays as it is, whatever the entry, and that is told ahead of its time.
func TestApplyToWrongSpaces(t *testing.T) {
	for name, turn := range wrongSpaces() {
		s := busy()
		turn(&s)
		for _, e := range []api.Entry{at(1<<40, nop(0, 7)), at(9, nop(0, 7)), at(0, nop(0, 7)), at(9), at(-1, nop(0, 7)), at(9, nop(0, 0)), {}} {
			still(t, name, s, e, api.ErrArg)
		}
	}
}

// Promise 11.2: an entry that may not be is told ahead of its time.
func TestApplyOfWrongEntries(t *testing.T) {
	s := busy()
	for _, now := range []int{0, 8, 9, 10, 1 << 40} {
		still(t, "none", s, at(now), api.ErrArg)
		still(t, "nine", s, at(now, nops(9)...), api.ErrArg)
		for name, wrong := range wrongRequests() {
			still(t, name, s, at(now, wrong), api.ErrArg)
			still(t, name+", last", s, at(now, nop(0, 7), out(2, 1, number(1)), wrong), api.ErrArg)
		}
	}
	still(t, "-1", s, at(-1, nop(0, 7)), api.ErrArg)
	still(t, "MaxTime + 1", s, at(1<<40+1, nop(0, 7)), api.ErrArg)
}

// Promise 11.2: spaces and entries of all sorts, as the chapter says.
func TestAsPlainly(t *testing.T) {
	chance := rand.New(rand.NewSource(117))
	faults := map[int]int{}
	for range 10000 {
		s := played(chance)
		e := randomEntry(chance, s)
		switch chance.Intn(12) {
		case 0:
			e.Now = s.Now - 1 - chance.Intn(2)
		case 1:
			s.Now = 1 << 40
		case 2:
			e.List = e.List[:chance.Intn(len(e.List))]
		case 3:
			e.List[chance.Intn(len(e.List))].Kind = chance.Intn(11)
		}
		_, _, fault := plainApply(s, e)
		faults[fault]++
		asPlainly(t, "by chance", s, e)
	}
	if faults[api.OK] < 5000 || faults[api.ErrArg] < 300 || faults[api.ErrLink] < 300 {
		t.Errorf("a test that asks too little: %v", faults)
	}
}

// Promise 11.2, 11.3: all together are as each alone at that time, however they are cut.
func TestTogetherAsOneByOne(t *testing.T) {
	chance := rand.New(rand.NewSource(118))
	for range 3000 {
		s := played(chance)
		e := randomEntry(chance, s)
		whole, replies := apply(t, s, e)
		cut := chance.Intn(len(e.List) + 1)
		parts := s
		var all []api.Reply
		for _, l := range [][]api.Request{e.List[:cut], e.List[cut:]} {
			if len(l) == 0 {
				continue
			}
			behind, some := apply(t, parts, api.Entry{Now: e.Now, List: l})
			parts, all = behind, append(all, some...)
		}
		if !sameSpace(whole, parts) || !sameTold(replies, all) {
			t.Fatalf("%v\n%v, cut at %d: %v, %v", s, e, cut, whole, parts)
		}
	}
}

// Promise 11.3: the same entries make the same space, and are told the same, also from their bytes; a space that may be stays one.
func TestSameEntries(t *testing.T) {
	for seed := range int64(60) {
		chance := rand.New(rand.NewSource(seed))
		s := space.New(rights(chance), rights(chance))
		other := copySpace(s)
		sums := map[api.Hash]int{}
		for place := range 60 {
			e := randomEntry(chance, s)
			b := put(t, e)
			var replies, again []api.Reply
			s, replies = apply(t, s, e)
			other, again = apply(t, copySpace(other), get(t, b))
			if !space.May(s) || !space.Same(s, other) || !sameSpace(s, other) || !sameTold(replies, again) {
				t.Fatalf("%v: %v, %v", e, s, other)
			}
			sums[Sum(b)] = place
		}
		if len(sums) < 50 {
			t.Errorf("a test that asks too little: %d", len(sums))
		}
	}
}

// Promise 11.3: what entries make hangs on their order, and on each of them.
func TestOtherEntries(t *testing.T) {
	first, second := at(1, out(0, 1, number(1))), at(1, out(1, 1, number(2)))
	s := space.New(15, 15)
	one, _ := apply(t, s, first)
	both, _ := apply(t, one, second)
	turned, _ := apply(t, s, second)
	turned, _ = apply(t, turned, first)
	if space.Same(one, both) || space.Same(both, turned) {
		t.Errorf("%v, %v, %v", one, both, turned)
	}
	if again, replies := apply(t, both, second); !space.Same(again, both) || !sameTold(replies, []api.Reply{told(1, 1, api.RDone)}) {
		t.Errorf("%v, told %v", again, replies)
	}
}

// Promise 11.2 (and rule 2): what is handed in is not changed, also behind its end.
func TestApplyChangesNothingHandedIn(t *testing.T) {
	chance := rand.New(rand.NewSource(119))
	for range 3000 {
		s := copySpace(played(chance))
		e := randomEntry(chance, s)
		if chance.Intn(4) == 0 {
			e.Now--
		}
		s.Items = append(s.Items, api.Item{Owner: 77})[:len(s.Items)]
		s.Waiters = append(s.Waiters, api.Waiter{Seq: 77})[:len(s.Waiters)]
		e.List = append(e.List, nop(3, 77))[:len(e.List)]
		s0, e0 := copySpace(s), copyEntry(e)
		Apply(s, e)
		if !reflect.DeepEqual(copySpace(s), s0) || !sameParts(e, e0) {
			t.Fatalf("%v, %v", s0, e0)
		}
		if s.Items[:len(s.Items)+1][len(s.Items)].Owner != 77 || s.Waiters[:len(s.Waiters)+1][len(s.Waiters)].Seq != 77 || e.List[:len(e.List)+1][len(e.List)].Seq != 77 {
			t.Fatalf("behind the end: %v, %v", s0, e0)
		}
	}
}

// fieldsOfEntry are all lists of fields of an entry.
func fieldsOfEntry(e api.Entry) [][]api.Field {
	var l [][]api.Field
	for _, r := range e.List {
		l = append(l, r.P, r.T)
	}
	return l
}

// fieldsOfSpace are those of a space.
func fieldsOfSpace(s api.Space) [][]api.Field {
	var l [][]api.Field
	for _, i := range s.Items {
		l = append(l, i.T)
	}
	for _, w := range s.Waiters {
		l = append(l, w.P)
	}
	for _, reply := range s.Last {
		l = append(l, reply.T)
	}
	return l
}

// apart tells whether no two lists share a field, nor room behind their ends.
func apart(l [][]api.Field) bool {
	for mark, one := range l {
		one = one[:cap(one)]
		for n := range one {
			one[n] = api.Field{Kind: mark + 100}
		}
	}
	for mark, one := range l {
		for _, f := range one[:cap(one)] {
			if f.Kind != mark+100 {
				return false
			}
		}
	}
	return true
}

// Promise 11.2 (and rule 2): what is answered is the caller's own, also beside an error: it shares nothing with what was handed in, and none of its lists with another.
func TestAnswersAreTheCallersOwn(t *testing.T) {
	chance := rand.New(rand.NewSource(120))
	for n := range 3000 {
		s := copySpace(played(chance))
		e := copyEntry(randomEntry(chance, s))
		switch n % 4 {
		case 0:
			e.Now, s.Now = 0, max(1, s.Now)
		case 1:
			e.List[len(e.List)-1].Seq = 0
		case 2:
			s.Read = 16
		}
		behind, replies, _ := Apply(s, e)
		lists := slices.Concat(fieldsOfSpace(s), fieldsOfSpace(behind), fieldsOfEntry(e))
		for _, reply := range replies {
			lists = append(lists, reply.T)
		}
		items, waiters, requests := slices.Clone(s.Items), slices.Clone(s.Waiters), slices.Clone(e.List)
		clear(behind.Items[:cap(behind.Items)])
		clear(behind.Waiters[:cap(behind.Waiters)])
		if !reflect.DeepEqual(s.Items, items) || !reflect.DeepEqual(s.Waiters, waiters) || !reflect.DeepEqual(e.List, requests) {
			t.Fatalf("items, waiters or requests of what was handed in: %v, %v", s, e)
		}
		if !apart(lists) {
			t.Fatalf("lists of fields: %v, told %v", e, replies)
		}
	}
}

// Promise 11.2 (and rule 5): nil lists and empty ones are done alike.
func TestApplyOfEmptyLists(t *testing.T) {
	chance := rand.New(rand.NewSource(121))
	for range 500 {
		s := played(chance)
		e := randomEntry(chance, s)
		one, replies := apply(t, s, e)
		other, again := apply(t, copySpace(s), copyEntry(e))
		if !sameSpace(one, other) || !sameTold(replies, again) {
			t.Fatalf("%v, %v: %v, %v", s, e, one, other)
		}
	}
	still(t, "no requests", busy(), api.Entry{Now: 9, List: []api.Request{}}, api.ErrArg)
}
