package oper

import (
	"math"
	"math/rand"
	"reflect"
	"slices"
	"strings"
	"testing"

	"chirograph/api"
)

func number(n int64) api.Field { return api.Field{Kind: api.FInt, N: n} }
func text(s string) api.Field  { return api.Field{Kind: api.FText, S: s} }

var anyOne = api.Field{Kind: api.Any}

var kindNames = []string{1: "Out", 2: "Rdp", 3: "Inp", 4: "Rd", 5: "In", 6: "Cas", 7: "Replace", 8: "Nop"}

// lists are field lists of all sorts: none, tuples, templates, and such as may be neither.
func lists() [][]api.Field {
	return [][]api.Field{
		nil,
		{},
		{number(7)},
		{text("")},
		{number(math.MinInt64), text(strings.Repeat("x", 40)), number(1), text("b"), text("c"), number(3)},
		{anyOne},
		{number(7), {Kind: api.AInt}},
		{{Kind: api.AText}, text("a")},
		{{}},
		{{Kind: 6}},
		{{Kind: api.FInt, S: "a"}},
		{{Kind: api.Any, N: 1}},
		{text(strings.Repeat("x", 41))},
		slices.Repeat([]api.Field{anyOne}, 6),
		slices.Repeat([]api.Field{anyOne}, 7),
		slices.Repeat([]api.Field{number(1)}, 7),
		{number(1), {Kind: 9}},
	}
}

// requestOf is one of the kind that may be.
func requestOf(kind int) api.Request {
	r := api.Request{Client: 2, Seq: 258, Kind: kind}
	if plainReads(kind) {
		r.P = []api.Field{anyOne, text("a")}
	}
	if kind == api.Out || kind == api.Cas || kind == api.Replace {
		r.T = []api.Field{number(7), text("b")}
		r.Lease = 5
	}
	return r
}

// clone gives the request with lists of its own.
func clone(r api.Request) api.Request {
	r.P, r.T = slices.Clone(r.P), slices.Clone(r.T)
	return r
}

// randomFields are from 1 to 6 that may stand in a template, or in a tuple.
func randomFields(chance *rand.Rand, template bool) []api.Field {
	l := make([]api.Field, 1+chance.Intn(api.MaxFields))
	for i := range l {
		l[i].Kind = 1 + chance.Intn(2)
		if template {
			l[i].Kind = 1 + chance.Intn(5)
		}
		switch l[i].Kind {
		case api.FInt:
			l[i].N = int64(chance.Uint64()) >> chance.Intn(64)
		case api.FText:
			s := make([]byte, chance.Intn(api.MaxText+1))
			chance.Read(s)
			l[i].S = string(s)
		}
	}
	return l
}

// randomRequest is one of any kind that may be.
func randomRequest(chance *rand.Rand) api.Request {
	r := api.Request{Client: chance.Intn(4), Seq: 1 + chance.Intn(1<<30)>>chance.Intn(31), Kind: 1 + chance.Intn(8)}
	if plainReads(r.Kind) {
		r.P = randomFields(chance, true)
	}
	if r.Kind == api.Out || r.Kind == api.Cas || r.Kind == api.Replace {
		r.T = randomFields(chance, false)
		r.Lease = chance.Intn(1<<40+1) >> chance.Intn(41)
	}
	return r
}

// Promise 7.1: one of each kind.
func TestMayOfEachKind(t *testing.T) {
	for kind := 1; kind <= 8; kind++ {
		if r := requestOf(kind); !May(r) {
			t.Errorf("%s: %v", kindNames[kind], r)
		}
	}
	if !May(api.Request{Client: 0, Seq: 1, Kind: api.Nop}) {
		t.Error("the chapter's example")
	}
	if May(api.Request{}) {
		t.Error("nothing")
	}
}

// Promise 7.1: Client, Seq, Kind and Lease at their edges, for each kind.
func TestMayEdges(t *testing.T) {
	for kind := 1; kind <= 8; kind++ {
		whole := requestOf(kind)
		lasts := kind == api.Out || kind == api.Cas || kind == api.Replace
		for _, k := range []struct {
			name string
			turn func(r *api.Request)
			want bool
		}{
			{"Client -1", func(r *api.Request) { r.Client = -1 }, false},
			{"Client 0", func(r *api.Request) { r.Client = 0 }, true},
			{"Client 3", func(r *api.Request) { r.Client = 3 }, true},
			{"Client 4", func(r *api.Request) { r.Client = 4 }, false},
			{"Client 256", func(r *api.Request) { r.Client = 256 }, false},
			{"Client 2^32", func(r *api.Request) { r.Client = 1 << 32 }, false},
			{"the least Client", func(r *api.Request) { r.Client = math.MinInt }, false},
			{"the greatest Client", func(r *api.Request) { r.Client = math.MaxInt }, false},
			{"Seq -1", func(r *api.Request) { r.Seq = -1 }, false},
			{"Seq 0", func(r *api.Request) { r.Seq = 0 }, false},
			{"Seq 1", func(r *api.Request) { r.Seq = 1 }, true},
			{"Seq 2^30", func(r *api.Request) { r.Seq = 1 << 30 }, true},
			{"Seq 2^30 + 1", func(r *api.Request) { r.Seq = 1<<30 + 1 }, false},
			{"Seq 2^32 + 1", func(r *api.Request) { r.Seq = 1<<32 + 1 }, false},
			{"the least Seq", func(r *api.Request) { r.Seq = math.MinInt }, false},
			{"the greatest Seq", func(r *api.Request) { r.Seq = math.MaxInt }, false},
			{"Lease -1", func(r *api.Request) { r.Lease = -1 }, false},
			{"Lease 0", func(r *api.Request) { r.Lease = 0 }, true},
			{"Lease 1", func(r *api.Request) { r.Lease = 1 }, lasts},
			{"Lease 2^40", func(r *api.Request) { r.Lease = 1 << 40 }, lasts},
			{"Lease 2^40 + 1", func(r *api.Request) { r.Lease = 1<<40 + 1 }, false},
			{"the least Lease", func(r *api.Request) { r.Lease = math.MinInt }, false},
			{"the greatest Lease", func(r *api.Request) { r.Lease = math.MaxInt }, false},
			{"Kind -1", func(r *api.Request) { r.Kind = -1 }, false},
			{"Kind 0", func(r *api.Request) { r.Kind = 0 }, false},
			{"Kind 9", func(r *api.Request) { r.Kind = 9 }, false},
			{"Kind, by 256", func(r *api.Request) { r.Kind += 256 }, false},
			{"Kind, by 2^32", func(r *api.Request) { r.Kind += 1 << 32 }, false},
			{"Kind, to the least", func(r *api.Request) { r.Kind += math.MinInt }, false},
		} {
			r := clone(whole)
			k.turn(&r)
			if got := May(r); got != k.want {
				t.Errorf("%s, %s: %v", kindNames[kind], k.name, got)
			}
		}
	}
}

// Promise 7.1: what P and T each kind has, with all sorts of both, and with Leases.
func TestMayFields(t *testing.T) {
	for kind := -1; kind <= 10; kind++ {
		for _, p := range lists() {
			for _, l := range lists() {
				for _, lease := range []int{0, 1, 1 << 40, 1<<40 + 1, -1} {
					r := api.Request{Client: 1, Seq: 1, Kind: kind, P: p, T: l, Lease: lease}
					if got := May(r); got != plainMay(r) {
						t.Fatalf("%v: %v", r, got)
					}
				}
			}
		}
	}
}

// Promise 7.1: by kind, what a request can't do without, and what it may not have.
func TestMayWithoutFields(t *testing.T) {
	for kind := 1; kind <= 8; kind++ {
		whole := requestOf(kind)
		reads, brings := len(whole.P) > 0, len(whole.T) > 0
		for _, k := range []struct {
			name string
			turn func(r *api.Request)
			want bool
		}{
			{"no P", func(r *api.Request) { r.P = nil }, !reads},
			{"an empty P", func(r *api.Request) { r.P = []api.Field{} }, !reads},
			{"a template", func(r *api.Request) { r.P = []api.Field{anyOne} }, reads},
			{"a tuple as P", func(r *api.Request) { r.P = []api.Field{number(1)} }, reads},
			{"a P that may not be", func(r *api.Request) { r.P = []api.Field{{}} }, false},
			{"no T", func(r *api.Request) { r.T = nil }, !brings},
			{"an empty T", func(r *api.Request) { r.T = []api.Field{} }, !brings},
			{"a tuple", func(r *api.Request) { r.T = []api.Field{number(1)} }, brings},
			{"a template as T", func(r *api.Request) { r.T = []api.Field{anyOne} }, false},
			{"a T that may not be", func(r *api.Request) { r.T = []api.Field{{}} }, false},
		} {
			r := clone(whole)
			k.turn(&r)
			if !brings {
				r.Lease = 0
			}
			if got := May(r); got != k.want {
				t.Errorf("%s, %s: %v", kindNames[kind], k.name, got)
			}
		}
	}
}

// Promise 7.1: which kinds read, which write.
func TestReadsAndWrites(t *testing.T) {
	for _, k := range []struct {
		kind          int
		reads, writes bool
	}{
		{api.Out, false, true},
		{api.Rdp, true, false},
		{api.Inp, true, true},
		{api.Rd, true, false},
		{api.In, true, true},
		{api.Cas, true, true},
		{api.Replace, true, true},
		{api.Nop, false, false},
	} {
		if Reads(k.kind) != k.reads || Writes(k.kind) != k.writes {
			t.Errorf("%s: %v, %v", kindNames[k.kind], Reads(k.kind), Writes(k.kind))
		}
	}
	for kind := -300; kind <= 600; kind++ {
		if Reads(kind) != plainReads(kind) || Writes(kind) != plainWrites(kind) {
			t.Errorf("kind %d: %v, %v", kind, Reads(kind), Writes(kind))
		}
	}
	for _, kind := range []int{math.MinInt, math.MinInt + 5, -1 << 32, 1<<32 + api.In, 1<<62 + api.Out, math.MaxInt} {
		if Reads(kind) || Writes(kind) {
			t.Errorf("kind %d", kind)
		}
	}
}

// Promise 7.2: Same asks all parts, of requests that may be and of others.
func TestSame(t *testing.T) {
	turns := map[string]func(r *api.Request){
		"Client":           func(r *api.Request) { r.Client++ },
		"Client, by 2^32":  func(r *api.Request) { r.Client += 1 << 32 },
		"Seq":              func(r *api.Request) { r.Seq++ },
		"Seq, by 2^32":     func(r *api.Request) { r.Seq += 1 << 32 },
		"Kind":             func(r *api.Request) { r.Kind++ },
		"Kind, by 256":     func(r *api.Request) { r.Kind += 256 },
		"Lease":            func(r *api.Request) { r.Lease++ },
		"Lease, by 2^32":   func(r *api.Request) { r.Lease += 1 << 32 },
		"a field more (P)": func(r *api.Request) { r.P = append(slices.Clone(r.P), anyOne) },
		"a field more (T)": func(r *api.Request) { r.T = append(slices.Clone(r.T), number(0)) },
		"an empty one (P)": func(r *api.Request) { r.P = append(slices.Clone(r.P), api.Field{}) },
		"an empty one (T)": func(r *api.Request) { r.T = append(slices.Clone(r.T), api.Field{}) },
	}
	for kind := 0; kind <= 9; kind++ {
		r := requestOf(kind)
		if !Same(r, r) || !Same(r, clone(r)) {
			t.Errorf("kind %d: not the same as itself", kind)
		}
		for name, turn := range turns {
			other := clone(r)
			turn(&other)
			if Same(r, other) || Same(other, r) {
				t.Errorf("kind %d: another %s", kind, name)
			}
		}
	}
	odd := api.Request{Client: -5, Seq: math.MinInt, Kind: 99, P: []api.Field{{Kind: 77, N: 1, S: "x"}}, T: []api.Field{anyOne, {}}, Lease: -1}
	if !Same(odd, clone(odd)) {
		t.Error("one that may not be")
	}
	for name, turn := range turns {
		other := clone(odd)
		turn(&other)
		if Same(odd, other) || Same(other, odd) {
			t.Errorf("one that may not be: another %s", name)
		}
	}
}

// Promise 7.2 (and rule 5): nil and empty are the same; P and T aren't one another.
func TestSameOfNothing(t *testing.T) {
	bare := api.Request{Seq: 1, Kind: api.Nop}
	for _, p := range [][]api.Field{nil, {}} {
		for _, l := range [][]api.Field{nil, {}} {
			r := bare
			r.P, r.T = p, l
			if !Same(bare, r) || !Same(r, bare) {
				t.Errorf("%#v", r)
			}
		}
	}
	first, second := bare, bare
	first.P, second.T = []api.Field{number(1)}, []api.Field{number(1)}
	if Same(first, second) || Same(second, first) {
		t.Error("P of one, T of the other")
	}
	first.T, second.P = []api.Field{number(2)}, []api.Field{number(2)}
	if Same(first, second) {
		t.Error("P and T are turned")
	}
	for at, f := range []api.Field{{Kind: api.FInt, N: 8}, {Kind: api.FText, N: 7}, {Kind: api.FInt, N: 7, S: "a"}} {
		a, b := bare, bare
		a.P, b.P = []api.Field{number(7)}, []api.Field{f}
		if Same(a, b) {
			t.Errorf("another field of P: %d", at)
		}
		a, b = bare, bare
		a.T, b.T = []api.Field{number(7)}, []api.Field{f}
		if Same(a, b) {
			t.Errorf("another field of T: %d", at)
		}
	}
}

// Promise 7.2 (and rule 2): what is handed in isn't changed.
func TestAskedIsNotChanged(t *testing.T) {
	chance := rand.New(rand.NewSource(72))
	for range 500 {
		a, b := randomRequest(chance), randomRequest(chance)
		a0, b0 := clone(a), clone(b)
		May(a)
		Put(a)
		Same(a, b)
		if !reflect.DeepEqual(a, a0) || !reflect.DeepEqual(b, b0) {
			t.Fatalf("%v, %v", a0, b0)
		}
	}
}
