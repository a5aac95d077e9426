package tuple

import (
	"math"
	"math/rand"
	"slices"
	"strings"
	"testing"

	"chirograph/api"
)

func number(n int64) api.Field { return api.Field{Kind: api.FInt, N: n} }
func text(s string) api.Field  { return api.Field{Kind: api.FText, S: s} }

var (
	anyInt  = api.Field{Kind: api.AInt}
	anyText = api.Field{Kind: api.AText}
	anyOne  = api.Field{Kind: api.Any}
)

var (
	kinds   = []int{api.FInt, api.FText, api.AInt, api.AText, api.Any, 0, 6, 7, 8, -1, -2, 255, 256, 256 + api.FInt, 256 + api.FText, 1<<32 + api.FInt, 1<<32 + api.Any, math.MaxInt, math.MinInt, math.MinInt + api.FInt}
	numbers = []int64{0, 1, -1, 255, 1 << 32, math.MaxInt64, math.MinInt64}
	texts   = []string{"", "a", "b", "A", "\x00", "\x00\x00", "\xff\xfe", strings.Repeat("x", 39), strings.Repeat("x", 40), strings.Repeat("x", 41), strings.Repeat("é", 20), strings.Repeat("é", 21), strings.Repeat("\x00", 40), strings.Repeat("\x00", 41), strings.Repeat("x", 300), strings.Repeat("x", 1<<16)}
)

// allFields are those of every kind with every number and every text.
func allFields() []api.Field {
	var l []api.Field
	for _, k := range kinds {
		for _, n := range numbers {
			for _, s := range texts {
				l = append(l, api.Field{Kind: k, N: n, S: s})
			}
		}
	}
	return l
}

// fieldsThat are those of all that may stand in a template, or in a tuple.
func fieldsThat(template bool) []api.Field {
	return slices.DeleteFunc(allFields(), func(f api.Field) bool { return !plainMayField(f, template) })
}

// randomList has from 1 to 6 fields that may stand in a template, or in a tuple.
func randomList(chance *rand.Rand, template bool) []api.Field {
	l := make([]api.Field, 1+chance.Intn(api.MaxFields))
	for i := range l {
		kind := 1 + chance.Intn(2)
		if template {
			kind = 1 + chance.Intn(5)
		}
		l[i].Kind = kind
		switch kind {
		case api.FInt:
			l[i].N = int64(chance.Uint64()) >> chance.Intn(64)
		case api.FText:
			s := make([]byte, chance.Intn(api.MaxText+1))
			chance.Read(s)
			l[i].S = string(s)
		}
	}
	return l
}

// Promise 6.1: what a tuple and a template may be, at each edge.
func TestMayEdges(t *testing.T) {
	forty, more := strings.Repeat("x", 40), strings.Repeat("x", 41)
	for _, k := range []struct {
		name            string
		f               api.Field
		value, template bool
	}{
		{"nothing", api.Field{}, false, false},
		{"a number", number(7), true, true},
		{"nought", number(0), true, true},
		{"the least number", number(math.MinInt64), true, true},
		{"the greatest number", number(math.MaxInt64), true, true},
		{"a number with a text", api.Field{Kind: api.FInt, N: 7, S: "a"}, false, false},
		{"nought with a text", api.Field{Kind: api.FInt, S: "\x00"}, false, false},
		{"a text", text("a"), true, true},
		{"an empty text", text(""), true, true},
		{"a text of 40 bytes", text(forty), true, true},
		{"a text of 41 bytes", text(more), false, false},
		{"20 letters of 40 bytes", text(strings.Repeat("é", 20)), true, true},
		{"21 letters of 42 bytes", text(strings.Repeat("é", 21)), false, false},
		{"bytes that are no letters", text("\xff\x00\xc3"), true, true},
		{"a text with a number", api.Field{Kind: api.FText, N: 1, S: "a"}, false, false},
		{"an empty text with a number", api.Field{Kind: api.FText, N: -1}, false, false},
		{"any number", anyInt, false, true},
		{"any number, with one", api.Field{Kind: api.AInt, N: 1}, false, false},
		{"any number, with a text", api.Field{Kind: api.AInt, S: "a"}, false, false},
		{"any text", anyText, false, true},
		{"any text, with a number", api.Field{Kind: api.AText, N: 1}, false, false},
		{"any text, with one", api.Field{Kind: api.AText, S: "a"}, false, false},
		{"any", anyOne, false, true},
		{"any, with a number", api.Field{Kind: api.Any, N: math.MinInt64}, false, false},
		{"any, with a text", api.Field{Kind: api.Any, S: " "}, false, false},
		{"kind 6", api.Field{Kind: 6}, false, false},
		{"kind -1", api.Field{Kind: -1}, false, false},
		{"kind 257", api.Field{Kind: 257}, false, false},
	} {
		if got := May([]api.Field{k.f}); got != k.value {
			t.Errorf("May of %s: %v", k.name, got)
		}
		if got := MayTemplate([]api.Field{k.f}); got != k.template {
			t.Errorf("MayTemplate of %s: %v", k.name, got)
		}
	}
}

// Promise 6.1: from 1 to 6 fields.
func TestMayHowMany(t *testing.T) {
	for _, f := range []api.Field{number(1), text("a"), anyInt, anyText, anyOne} {
		for _, n := range []int{0, 1, 2, 5, 6, 7, 8, 256, 256 + 1, 256 + 6, 1 << 16} {
			l := slices.Repeat([]api.Field{f}, n)
			if got, want := MayTemplate(l), n >= 1 && n <= 6; got != want {
				t.Errorf("MayTemplate of %d of kind %d: %v", n, f.Kind, got)
			}
			if got, want := May(l), n >= 1 && n <= 6 && f.Kind <= api.FText; got != want {
				t.Errorf("May of %d of kind %d: %v", n, f.Kind, got)
			}
		}
	}
	if May(nil) || MayTemplate(nil) {
		t.Error("nil")
	}
}

// Promise 6.1: every field counts, wherever it stands.
func TestMayFieldByField(t *testing.T) {
	for _, f := range allFields() {
		for n := 1; n <= api.MaxFields; n++ {
			for at := range n {
				l := slices.Repeat([]api.Field{number(3)}, n)
				l[at] = f
				if got := May(l); got != plainMayField(f, false) {
					t.Fatalf("May with kind %d, N %d, %d bytes at %d of %d: %v", f.Kind, f.N, len(f.S), at, n, got)
				}
				if got := MayTemplate(l); got != plainMayField(f, true) {
					t.Fatalf("MayTemplate with kind %d, N %d, %d bytes at %d of %d: %v", f.Kind, f.N, len(f.S), at, n, got)
				}
			}
		}
	}
}

// Promise 6.1: what matches what, a field of each.
func TestMatchOneField(t *testing.T) {
	for _, k := range []struct {
		name string
		p, t api.Field
		want bool
	}{
		{"the same number", number(7), number(7), true},
		{"another number", number(7), number(8), false},
		{"a number and its negative", number(7), number(-7), false},
		{"numbers with the same lowest bits", number(7), number(7 + 1<<32), false},
		{"nought and the empty text", number(0), text(""), false},
		{"the empty text and nought", text(""), number(0), false},
		{"the same text", text("a"), text("a"), true},
		{"another text", text("a"), text("b"), false},
		{"another case", text("a"), text("A"), false},
		{"a beginning", text("a"), text("aa"), false},
		{"a longer one", text("aa"), text("a"), false},
		{"the empty texts", text(""), text(""), true},
		{"the empty text and another", text(""), text("\x00"), false},
		{"any number", anyInt, number(math.MinInt64), true},
		{"any number: a text", anyInt, text("7"), false},
		{"any number: the empty text", anyInt, text(""), false},
		{"any text", anyText, text("a"), true},
		{"any text: the empty one", anyText, text(""), true},
		{"any text: a number", anyText, number(0), false},
		{"any: a number", anyOne, number(5), true},
		{"any: a text", anyOne, text("a"), true},
		{"a template that may not be: any number, with one", api.Field{Kind: api.AInt, N: 7}, number(7), false},
		{"a template that may not be: any, with a text", api.Field{Kind: api.Any, S: "a"}, text("a"), false},
		{"a template that may not be, the same", api.Field{Kind: 6}, api.Field{Kind: 6}, false},
		{"two that may not be, the same", api.Field{Kind: api.FInt, N: 7, S: "a"}, api.Field{Kind: api.FInt, N: 7, S: "a"}, false},
		{"two longer texts, the same", text(strings.Repeat("x", 41)), text(strings.Repeat("x", 41)), false},
		{"any: a tuple that may not be", anyOne, text(strings.Repeat("x", 41)), false},
		{"any number: a number with a text", anyInt, api.Field{Kind: api.FInt, S: "a"}, false},
		{"any: any", anyOne, anyOne, false},
		{"any number: any number", anyInt, anyInt, false},
		{"any text: any text", anyText, anyText, false},
		{"a number: any number", number(7), anyInt, false},
	} {
		if got := Match([]api.Field{k.p}, []api.Field{k.t}); got != k.want {
			t.Errorf("%s: %v", k.name, got)
		}
	}
}

// Promise 6.1: all fields with all fields, those that may not be too.
func TestMatchFieldByField(t *testing.T) {
	var l []api.Field
	for _, f := range allFields() {
		if len(f.S) < 50 && f.N < 256 {
			l = append(l, f)
		}
	}
	for _, p := range l {
		for _, f := range l {
			if got, want := Match([]api.Field{p}, []api.Field{f}), plainMatch([]api.Field{p}, []api.Field{f}); got != want {
				t.Fatalf("%v, %v: %v", p, f, got)
			}
		}
	}
}

// Promise 6.1: as many fields, each at its own place.
func TestMatchPlaces(t *testing.T) {
	if !Match([]api.Field{anyInt, text("a")}, []api.Field{number(7), text("a")}) {
		t.Error("the chapter's example")
	}
	if Match([]api.Field{anyInt, text("a")}, []api.Field{text("a"), number(7)}) {
		t.Error("the places are turned")
	}
	for n := 0; n <= 8; n++ {
		for m := 0; m <= 8; m++ {
			p, l := slices.Repeat([]api.Field{anyOne}, n), slices.Repeat([]api.Field{number(1)}, m)
			if got, want := Match(p, l), n == m && n >= 1 && n <= 6; got != want {
				t.Errorf("%d, %d fields: %v", n, m, got)
			}
		}
	}
	for n := 1; n <= api.MaxFields; n++ {
		for at := range n {
			l := slices.Repeat([]api.Field{number(1)}, n)
			p := slices.Clone(l)
			for _, k := range []struct {
				f    api.Field
				want bool
			}{{number(1), true}, {anyInt, true}, {anyOne, true}, {anyText, false}, {number(2), false}, {text(""), false}} {
				p[at] = k.f
				if got := Match(p, l); got != k.want {
					t.Errorf("%v at %d of %d: %v", k.f, at, n, got)
				}
			}
		}
	}
	if Match(nil, nil) || Match([]api.Field{}, nil) || Match(nil, []api.Field{number(1)}) || Match([]api.Field{anyOne}, nil) {
		t.Error("nothing")
	}
}

// Promise 6.1: templates made of tuples, one field turned to something else.
func TestMatchRandom(t *testing.T) {
	chance := rand.New(rand.NewSource(61))
	patterns, values := fieldsThat(true), fieldsThat(false)
	for range 20000 {
		l := randomList(chance, false)
		p := slices.Clone(l)
		for i := range p {
			switch chance.Intn(5) {
			case 0:
				p[i] = api.Field{Kind: l[i].Kind + 2} // any of its own kind
			case 1:
				p[i] = anyOne
			}
		}
		if !Match(p, l) {
			t.Fatalf("%v does not match %v", p, l)
		}
		p[chance.Intn(len(p))] = patterns[chance.Intn(len(patterns))]
		l[chance.Intn(len(l))] = values[chance.Intn(len(values))]
		if got := Match(p, l); got != plainMatch(p, l) {
			t.Fatalf("%v, %v: %v", p, l, got)
		}
	}
}

// Promise 6.1: the same in all parts, whether they may be or not.
func TestSame(t *testing.T) {
	whole := []api.Field{number(1), text("a"), anyInt, {Kind: 99, N: 5, S: "odd"}}
	if !Same(whole, slices.Clone(whole)) || !Same(whole, whole) {
		t.Error("the same fields")
	}
	if !Same(nil, []api.Field{}) || !Same([]api.Field{}, nil) || !Same(nil, nil) {
		t.Error("nil and empty are the same")
	}
	if Same(nil, []api.Field{{}}) || Same([]api.Field{{}}, nil) {
		t.Error("nothing and an empty field")
	}
	for at := range whole {
		for name, turn := range map[string]func(f *api.Field){
			"Kind":        func(f *api.Field) { f.Kind++ },
			"Kind, by 16": func(f *api.Field) { f.Kind += 1 << 16 },
			"N":           func(f *api.Field) { f.N = -1 - f.N },
			"N, by 32":    func(f *api.Field) { f.N += 1 << 32 },
			"S":           func(f *api.Field) { f.S += "\x00" },
		} {
			other := slices.Clone(whole)
			turn(&other[at])
			if Same(whole, other) || Same(other, whole) {
				t.Errorf("another %s at %d", name, at)
			}
		}
	}
	for n := range whole {
		if Same(whole, whole[:n]) || Same(whole[:n], whole) {
			t.Errorf("its first %d", n)
		}
	}
	if Same([]api.Field{number(1), text("a")}, []api.Field{text("a"), number(1)}) {
		t.Error("another order")
	}
	if Same([]api.Field{anyInt}, []api.Field{number(1)}) || Same([]api.Field{anyOne}, []api.Field{anyInt}) {
		t.Error("what matches isn't the same")
	}
	many := slices.Repeat([]api.Field{{Kind: -5}}, 1000)
	other := slices.Clone(many)
	other[999].N = 1
	if !Same(many, slices.Clone(many)) || Same(many, other) {
		t.Error("a thousand fields")
	}
}

// Promise 6.1 (and rule 2): what is handed in isn't changed.
func TestAskedIsNotChanged(t *testing.T) {
	chance := rand.New(rand.NewSource(62))
	for range 500 {
		p, l := randomList(chance, true), randomList(chance, false)
		p0, l0 := slices.Clone(p), slices.Clone(l)
		May(p)
		MayTemplate(p)
		Match(p, l)
		Same(p, l)
		Put(p)
		if !slices.Equal(p, p0) || !slices.Equal(l, l0) {
			t.Fatalf("%v, %v", p0, l0)
		}
	}
}
