package space

import (
	"math"
	"math/rand"
	"reflect"
	"slices"
	"strings"
	"testing"

	"chirograph/api"
)

func number(n int64) api.Field        { return api.Field{Kind: api.FInt, N: n} }
func text(s string) api.Field         { return api.Field{Kind: api.FText, S: s} }
func list(l ...api.Field) []api.Field { return l }

var (
	anyOne    = api.Field{Kind: api.Any}
	anyNumber = api.Field{Kind: api.AInt}
	anyText   = api.Field{Kind: api.AText}
)

// sameParts tells whether two spaces are the same in all parts, asked by the library.
func sameParts(a, b api.Space) bool { return reflect.DeepEqual(copySpace(a), copySpace(b)) }

// sameTold is sameParts of replies.
func sameTold(a, b []api.Reply) bool {
	return slices.EqualFunc(a, b, func(a, b api.Reply) bool { return reflect.DeepEqual(copyReply(a), copyReply(b)) })
}

// whole is a space that may be, with something in each part.
func whole() api.Space {
	s := New(15, 15)
	s.Now = 100
	s.Items = []api.Item{
		{Owner: 0, T: list(number(1), text("a"))},
		{Owner: 3, Until: 101, T: list(text("b"))},
		{Owner: 1, Until: 1 << 41, T: list(number(2))},
	}
	s.Waiters = []api.Waiter{
		{Client: 2, Seq: 5, Take: true, P: list(anyText, number(9))},
		{Client: 0, Seq: 1 << 30, P: list(text("z"))},
	}
	s.Last[0] = api.Reply{Client: 0, Seq: 1 << 30, Kind: api.RTuple, T: list(number(4)), Late: true}
	s.Last[1] = api.Reply{Client: 1, Seq: 1, Kind: api.RDone}
	s.Last[2] = api.Reply{Client: 2, Seq: 5, Kind: api.RWaits}
	return s
}

// itemsOf are as many items of the owner, without a lease, each with a tuple of its own.
func itemsOf(owner, many int) []api.Item {
	var l []api.Item
	for n := range many {
		l = append(l, api.Item{Owner: owner, T: list(text("item"), number(int64(100*owner+n)))})
	}
	return l
}

// waitersOf are as many waiters, which wait for nothing that the tests put.
func waitersOf(many int) []api.Waiter {
	var l []api.Waiter
	for n := range many {
		l = append(l, api.Waiter{Client: n % 4, Seq: n + 1, Take: n%2 == 0, P: list(text("never"), anyOne)})
	}
	return l
}

// Promise 8.1: what is in a new space.
func TestNew(t *testing.T) {
	for _, k := range []struct{ read, write, wantRead, wantWrite int }{
		{0, 0, 0, 0},
		{15, 15, 15, 15},
		{1, 8, 1, 8},
		{6, 9, 6, 9},
		{16, 32, 0, 0},
		{31, 21, 15, 5},
		{-1, -2, 15, 14},
		{-16, -15, 0, 1},
		{1<<32 + 3, 1<<62 + 12, 3, 12},
		{math.MinInt, math.MaxInt, 0, 15},
	} {
		s := New(k.read, k.write)
		want := api.Space{Read: k.wantRead, Write: k.wantWrite, Last: [4]api.Reply{{}, {Client: 1}, {Client: 2}, {Client: 3}}}
		if !sameParts(s, want) || !May(s) {
			t.Errorf("New(%d, %d): %v", k.read, k.write, s)
		}
	}
}

// turn is a change of a whole space: what may be then.
type turn struct {
	name string
	do   func(s *api.Space)
	want bool
}

// numberTurns turn one number of a space: from lowest to highest it may be, beside them not.
func numberTurns(name string, part func(s *api.Space) *int, lowest, highest int) []turn {
	to := func(how string, n int, want bool) turn {
		return turn{name + ": " + how, func(s *api.Space) { *part(s) = n }, want}
	}
	return []turn{
		to("lowest", lowest, true),
		to("one below", lowest-1, false),
		to("highest", highest, true),
		to("one above", highest+1, false),
		to("the least", math.MinInt, false),
		to("the greatest", math.MaxInt, false),
		to("lowest and 2^32", lowest+1<<32, highest >= lowest+1<<32),
		to("highest and 2^32", highest+1<<32, false),
	}
}

// fieldTurns set one list of fields.
func fieldTurns(name string, part func(s *api.Space) *[]api.Field, template bool) []turn {
	var l []turn
	for _, k := range []struct {
		name     string
		l        []api.Field
		tuple    bool
		template bool
	}{
		{"none", nil, false, false},
		{"no fields", list(), false, false},
		{"a number", list(number(7)), true, true},
		{"texts", list(text(""), text(strings.Repeat("x", 40))), true, true},
		{"a text too long", list(text(strings.Repeat("x", 41))), false, false},
		{"any", list(anyOne), false, true},
		{"any number", list(number(1), anyNumber), false, true},
		{"any text", list(anyText, text("a")), false, true},
		{"6 fields", slices.Repeat(list(number(1)), 6), true, true},
		{"7 fields", slices.Repeat(list(number(1)), 7), false, false},
		{"kind 0", list(api.Field{}), false, false},
		{"kind 6", list(api.Field{Kind: 6}), false, false},
		{"a number with a text", list(api.Field{Kind: api.FInt, S: "a"}), false, false},
		{"a text with a number", list(api.Field{Kind: api.FText, N: 1}), false, false},
	} {
		want := k.tuple || template && k.template
		l = append(l, turn{name + ": " + k.name, func(s *api.Space) { *part(s) = k.l }, want})
	}
	return l
}

// spaceTurns are changes of whole spaces, with what chapter 8 says of what comes out.
func spaceTurns() []turn {
	l := slices.Concat(
		numberTurns("Now", func(s *api.Space) *int { s.Items = nil; return &s.Now }, 0, 1<<40),
		numberTurns("Read", func(s *api.Space) *int { return &s.Read }, 0, 15),
		numberTurns("Write", func(s *api.Space) *int { return &s.Write }, 0, 15),
		numberTurns("an Owner", func(s *api.Space) *int { return &s.Items[1].Owner }, 0, 3),
		numberTurns("Until", func(s *api.Space) *int { return &s.Items[2].Until }, 101, 1<<41),
		numberTurns("a waiter's Client", func(s *api.Space) *int { return &s.Waiters[1].Client }, 0, 3),
		numberTurns("a waiter's Seq", func(s *api.Space) *int { return &s.Waiters[0].Seq }, 1, 1<<30),
		numberTurns("Seq of Last", func(s *api.Space) *int { return &s.Last[1].Seq }, 1, 1<<30),
		numberTurns("Kind of Last", func(s *api.Space) *int { return &s.Last[1].Kind }, 1, 6),
		fieldTurns("T of an item", func(s *api.Space) *[]api.Field { return &s.Items[2].T }, false),
		fieldTurns("P of a waiter", func(s *api.Space) *[]api.Field { return &s.Waiters[1].P }, true),
		fieldTurns("T of Last", func(s *api.Space) *[]api.Field { return &s.Last[0].T }, false),
	)
	return slices.Concat(l, itemTurns(), lastTurns())
}

// itemTurns are changes of items and waiters, and of how many there are.
func itemTurns() []turn {
	most := slices.Concat(itemsOf(0, 24), itemsOf(1, 24), itemsOf(2, 16))
	return []turn{
		{"nothing", func(s *api.Space) {}, true},
		{"no items", func(s *api.Space) { s.Items = nil }, true},
		{"empty items", func(s *api.Space) { s.Items = []api.Item{} }, true},
		{"64 items", func(s *api.Space) { s.Items = most }, true},
		{"65 items", func(s *api.Space) { s.Items = append(slices.Clone(most), itemsOf(3, 1)...) }, false},
		{"24 of one", func(s *api.Space) { s.Items = itemsOf(3, 24) }, true},
		{"25 of one", func(s *api.Space) { s.Items = itemsOf(3, 25) }, false},
		{"25 of client 0", func(s *api.Space) { s.Items = append(itemsOf(0, 24), most[0]) }, false},
		{"25 of one, between others", func(s *api.Space) { s.Items = slices.Concat(itemsOf(1, 12), itemsOf(2, 20), itemsOf(1, 13)) }, false},
		{"12 and 20 and 12", func(s *api.Space) { s.Items = slices.Concat(itemsOf(1, 12), itemsOf(2, 20), itemsOf(1, 12)) }, true},
		{"one item twice", func(s *api.Space) { s.Items = append(s.Items, s.Items[0]) }, true},
		{"Until 0", func(s *api.Space) { s.Items[1].Until = 0 }, true},
		{"Until Now", func(s *api.Space) { s.Items[1].Until = 100 }, false},
		{"Until 1 below Now", func(s *api.Space) { s.Items[1].Until = 99 }, false},
		{"Until -1", func(s *api.Space) { s.Items[1].Until = -1 }, false},
		{"Until 1, Now 0", func(s *api.Space) { s.Now, s.Items[1].Until = 0, 1 }, true},
		{"Now 101", func(s *api.Space) { s.Now = 101 }, false},
		{"Now 101, without the item", func(s *api.Space) { s.Now = 101; s.Items = append(s.Items[:1], s.Items[2]) }, true},
		{"Now -1, Until 0", func(s *api.Space) { s.Now, s.Items = -1, s.Items[:1] }, false},
		{"a last item that may not be", func(s *api.Space) { s.Items = append(itemsOf(1, 10), api.Item{}) }, false},
		{"no waiters", func(s *api.Space) { s.Waiters = nil }, true},
		{"empty waiters", func(s *api.Space) { s.Waiters = []api.Waiter{} }, true},
		{"16 waiters", func(s *api.Space) { s.Waiters = waitersOf(16) }, true},
		{"17 waiters", func(s *api.Space) { s.Waiters = waitersOf(17) }, false},
		{"16 waiters, the last one nothing", func(s *api.Space) { s.Waiters = append(waitersOf(15), api.Waiter{}) }, false},
		{"one waiter twice", func(s *api.Space) { s.Waiters = append(s.Waiters, s.Waiters[0]) }, true},
		{"a waiter whom an item matches", func(s *api.Space) { s.Waiters[0].P = list(text("b")) }, true},
	}
}

// lastTurns are changes of a client's last reply.
func lastTurns() []turn {
	l := []turn{
		{"Last of Seq 0", func(s *api.Space) { s.Last[0] = api.Reply{} }, true},
		{"Last of Seq 0 with an empty T", func(s *api.Space) { s.Last[3].T = list() }, true},
		{"Last of Seq 0 with a Kind", func(s *api.Space) { s.Last[3].Kind = api.RDone }, false},
		{"Last of Seq 0 with Kind -1", func(s *api.Space) { s.Last[3].Kind = -1 }, false},
		{"Last of Seq 0 with T", func(s *api.Space) { s.Last[3].T = list(number(1)) }, false},
		{"Last of Seq 0, late", func(s *api.Space) { s.Last[3].Late = true }, false},
		{"Last of Seq 0, RTuple, T", func(s *api.Space) { s.Last[3].Kind, s.Last[3].T = api.RTuple, list(number(1)) }, false},
		{"Last of Seq -1 with nothing else", func(s *api.Space) { s.Last[3].Seq = -1 }, false},
		{"Last of a Seq without a Kind", func(s *api.Space) { s.Last[3].Seq = 1 }, false},
		{"RTuple, not late", func(s *api.Space) { s.Last[0].Late = false }, true},
		{"ROld as Last", func(s *api.Space) { s.Last[1].Kind = api.ROld }, false},
		{"another's Last", func(s *api.Space) { s.Last[1].Client = 2 }, false},
		{"Last of client -1", func(s *api.Space) { s.Last[1].Client = -1 }, false},
		{"Last of client 2^32 + 1", func(s *api.Space) { s.Last[1].Client += 1 << 32 }, false},
		{"Last of Seq 0 of another", func(s *api.Space) { s.Last[3].Client = 0 }, false},
		{"two Lasts turned", func(s *api.Space) { s.Last[0], s.Last[1] = s.Last[1], s.Last[0] }, false},
	}
	for kind := api.RDone; kind <= api.RDenied; kind++ {
		tuple := kind == api.RTuple
		l = append(l,
			turn{"Last of a Kind without T", func(s *api.Space) { s.Last[1] = api.Reply{Client: 1, Seq: 7, Kind: kind} }, !tuple},
			turn{"Last of a Kind with T", func(s *api.Space) { s.Last[1] = api.Reply{Client: 1, Seq: 7, Kind: kind, T: list(number(1))} }, tuple},
			turn{"Last of a Kind, late", func(s *api.Space) { s.Last[1] = api.Reply{Client: 1, Seq: 7, Kind: kind, Late: true} }, false},
			turn{"Last of a Kind with T, late", func(s *api.Space) {
				s.Last[1] = api.Reply{Client: 1, Seq: 7, Kind: kind, T: list(number(1)), Late: true}
			}, tuple},
		)
	}
	return l
}

// Promise 8.1: each part of a space at its edges.
func TestMay(t *testing.T) {
	for _, k := range spaceTurns() {
		s := whole()
		k.do(&s)
		if got := May(s); got != k.want || plainMay(s) != k.want {
			t.Errorf("%s: %v (plainly %v)", k.name, got, plainMay(s))
		}
	}
	if May(api.Space{}) {
		t.Error("nothing: the Clients of Last are not theirs")
	}
	if !May(New(0, 0)) {
		t.Error("a new space that nobody may use")
	}
}

// Promise 8.1: which item is found.
func TestFind(t *testing.T) {
	s := New(0, 0)
	if at := Find(s, list(anyOne)); at != -1 {
		t.Errorf("of nothing: %d", at)
	}
	s.Items = []api.Item{
		{Owner: 2, T: list(text("a"), number(1))},
		{Owner: 1, T: list(text("b"))},
		{Owner: 1, Until: 5, T: list(text("a"), number(2))},
		{Owner: 0, T: list(number(3))},
		{Owner: 0, T: list(text("b"))},
	}
	for _, k := range []struct {
		name string
		p    []api.Field
		want int
	}{
		{"the first one", list(text("a"), number(1)), 0},
		{"the first of two", list(text("a"), anyOne), 0},
		{"the second of them by its number", list(text("a"), number(2)), 2},
		{"any number", list(anyNumber), 3},
		{"any text: the first of two alike", list(anyText), 1},
		{"any of one", list(anyOne), 1},
		{"any two", list(anyOne, anyOne), 0},
		{"any three", list(anyOne, anyOne, anyOne), -1},
		{"another text", list(text("c")), -1},
		{"turned", list(number(1), text("a")), -1},
		{"no fields", list(), -1},
		{"none", nil, -1},
		{"what is no template", list(api.Field{Kind: 9}), -1},
		{"any with a number", list(api.Field{Kind: api.Any, N: 1}), -1},
	} {
		if at := Find(s, k.p); at != k.want {
			t.Errorf("%s: %d, want %d", k.name, at, k.want)
		}
	}
}

// Promise 8.1: spaces that may not be are searched, too; what is no tuple is not found.
func TestFindInOddSpaces(t *testing.T) {
	s := api.Space{Now: -5, Items: itemsOf(9, 100)}
	s.Items[0].T = list(anyOne, anyOne)
	s.Items[1].T = nil
	if at := Find(s, list(anyOne, anyOne)); at != 2 {
		t.Errorf("the first tuple: %d", at)
	}
	if at := Find(s, list(text("item"), number(999))); at != 99 {
		t.Errorf("the last one: %d", at)
	}
}

// sameTurns change a whole space in one part.
func sameTurns() map[string]func(s *api.Space) {
	return map[string]func(s *api.Space){
		"Now":              func(s *api.Space) { s.Now++ },
		"Now, by 2^32":     func(s *api.Space) { s.Now += 1 << 32 },
		"Read":             func(s *api.Space) { s.Read = 14 },
		"Write":            func(s *api.Space) { s.Write = 7 },
		"Read by 16":       func(s *api.Space) { s.Read += 16 },
		"an Owner":         func(s *api.Space) { s.Items[1].Owner = 2 },
		"Until":            func(s *api.Space) { s.Items[1].Until++ },
		"no Until":         func(s *api.Space) { s.Items[1].Until = 0 },
		"T's number":       func(s *api.Space) { s.Items[0].T[0].N++ },
		"T's text":         func(s *api.Space) { s.Items[1].T[0].S = "c" },
		"T's kind":         func(s *api.Space) { s.Items[1].T[0].Kind = api.AText },
		"a field more":     func(s *api.Space) { s.Items[2].T = append(s.Items[2].T, number(0)) },
		"no T":             func(s *api.Space) { s.Items[2].T = nil },
		"an item more":     func(s *api.Space) { s.Items = append(s.Items, s.Items[0]) },
		"an empty item":    func(s *api.Space) { s.Items = append(s.Items, api.Item{}) },
		"an item less":     func(s *api.Space) { s.Items = s.Items[:2] },
		"no items":         func(s *api.Space) { s.Items = nil },
		"items turned":     func(s *api.Space) { s.Items[0], s.Items[1] = s.Items[1], s.Items[0] },
		"a waiter's":       func(s *api.Space) { s.Waiters[0].Client = 3 },
		"a waiter's Seq":   func(s *api.Space) { s.Waiters[1].Seq-- },
		"a waiter's Take":  func(s *api.Space) { s.Waiters[1].Take = true },
		"a waiter's P":     func(s *api.Space) { s.Waiters[1].P[0] = anyText },
		"a waiter more":    func(s *api.Space) { s.Waiters = append(s.Waiters, api.Waiter{}) },
		"a waiter less":    func(s *api.Space) { s.Waiters = s.Waiters[1:] },
		"waiters turned":   func(s *api.Space) { s.Waiters[0], s.Waiters[1] = s.Waiters[1], s.Waiters[0] },
		"Last's Client":    func(s *api.Space) { s.Last[3].Client = 0 },
		"Last's Seq":       func(s *api.Space) { s.Last[0].Seq-- },
		"Last's Kind":      func(s *api.Space) { s.Last[1].Kind = api.RFull },
		"Last's T":         func(s *api.Space) { s.Last[0].T[0].N++ },
		"Last without T":   func(s *api.Space) { s.Last[0].T = nil },
		"Last with T":      func(s *api.Space) { s.Last[3].T = list(number(1)) },
		"Last's Late":      func(s *api.Space) { s.Last[0].Late = false },
		"the fourth Late":  func(s *api.Space) { s.Last[3].Late = true },
		"Lasts turned":     func(s *api.Space) { s.Last[1], s.Last[2] = s.Last[2], s.Last[1] },
		"the third's Seq":  func(s *api.Space) { s.Last[2].Seq++ },
		"an item's waiter": func(s *api.Space) { s.Items, s.Waiters = nil, nil },
	}
}

// Promise 8.2: Same asks all parts, of spaces that may be and of others.
func TestSame(t *testing.T) {
	odd := whole()
	odd.Now, odd.Read, odd.Items[0].Owner, odd.Waiters[1].Seq, odd.Last[1].Kind = -1, 99, -7, -1, 77
	for _, s := range []api.Space{whole(), odd} {
		if !Same(s, s) || !Same(s, copySpace(s)) || !Same(copySpace(s), s) {
			t.Errorf("not the same as itself: %v", s)
		}
		for name, turn := range sameTurns() {
			other := copySpace(s)
			turn(&other)
			if Same(s, other) || Same(other, s) {
				t.Errorf("another: %s", name)
			}
		}
	}
}

// Promise 8.2 (and rule 5): nil and empty are the same.
func TestSameOfNothing(t *testing.T) {
	a, b := New(3, 5), New(3, 5)
	b.Items, b.Waiters = []api.Item{}, []api.Waiter{}
	for c := range b.Last {
		b.Last[c].T = list()
	}
	if !Same(a, b) || !Same(b, a) {
		t.Error("nil and empty")
	}
	a.Items, b.Items = []api.Item{{}}, []api.Item{{T: list()}}
	a.Waiters, b.Waiters = []api.Waiter{{}}, []api.Waiter{{P: list()}}
	if !Same(a, b) || !Same(b, a) {
		t.Error("nil and empty inside")
	}
	if !Same(api.Space{}, api.Space{}) || Same(api.Space{}, New(0, 0)) {
		t.Error("nothing, and a new one")
	}
}

// Promise 8.1, 8.2 (and rule 2): what is asked is not changed.
func TestAskedIsNotChanged(t *testing.T) {
	chance := rand.New(rand.NewSource(81))
	for range 500 {
		a, b, p := randomSpace(chance), randomSpace(chance), randomFields(chance, true)
		a0, b0, p0 := copySpace(a), copySpace(b), slices.Clone(p)
		May(a)
		Find(a, p)
		Same(a, b)
		Same(b, a)
		if !sameParts(a, a0) || !sameParts(b, b0) || !slices.Equal(p, p0) {
			t.Fatalf("%v, %v, %v", a0, b0, p0)
		}
	}
}
