package genesis

import (
	"bytes"
	"math"
	"math/rand"
	"slices"
	"testing"

	"chirograph/api"
	"chirograph/lms"
	"chirograph/space"
)

// Promise 10.1: what may be, at its edges.
func TestMayRight(t *testing.T) {
	for f := range 3 {
		taken(t, "bare", bare(f))
		taken(t, "started", started(f))
	}
	for access := range 16 {
		g := bare(1)
		g.Read, g.Write = access, 15-access
		taken(t, "whoever may read and write", g)
		g.Start = bytesOf(busy(g.Read, g.Write))
		taken(t, "whoever may read and write, started", g)
	}
	for ots := byte(1); ots <= 4; ots++ {
		g := bare(0)
		g.Keys[0] = keyOf(ots, "k")
		taken(t, "an OTS", g)
	}
	alikeKeys := bare(2)
	alikeKeys.Keys = slices.Repeat(alikeKeys.Keys[:1], 7)
	taken(t, "keys that are alike", alikeKeys)
	empty := bare(1)
	empty.Start = []byte{}
	taken(t, "an empty Start", empty)
	fresh := bare(1)
	fresh.Start = bytesOf(space.New(13, 7))
	taken(t, "a new space's bytes", fresh)
	full := bare(2)
	full.Start = bytesOf(fullest(13, 7))
	taken(t, "the fullest space's bytes", full)
}

// Promise 10.1: keys that lms makes, of all widths.
func TestMayOfTreesKeys(t *testing.T) {
	g := bare(1)
	for n, w := range []int{1, 2, 4, 8} {
		x, e := lms.New(api.Secret{Seed: api.Hash{byte(n)}}, w)
		if e != api.OK {
			t.Fatal(e)
		}
		g.Keys[n] = x.Public()
	}
	taken(t, "trees' keys", g)
}

// wrongTurns make of a started genesis of F 1 one that may not be.
func wrongTurns() map[string]func(g *api.Genesis) {
	turns := map[string]func(g *api.Genesis){
		"no keys":               func(g *api.Genesis) { g.Keys = nil },
		"a key":                 func(g *api.Genesis) { g.Keys = g.Keys[:1] },
		"three keys":            func(g *api.Genesis) { g.Keys = g.Keys[:3] },
		"five keys":             func(g *api.Genesis) { g.Keys = keysOf(5) },
		"seven keys":            func(g *api.Genesis) { g.Keys = keysOf(7) },
		"260 keys":              func(g *api.Genesis) { g.Keys = slices.Repeat(g.Keys, 65) },
		"F 0, four keys":        func(g *api.Genesis) { g.F = 0 },
		"F 0, two keys":         func(g *api.Genesis) { g.F, g.Keys = 0, keysOf(2) },
		"F 0, no keys":          func(g *api.Genesis) { g.F, g.Keys = 0, nil },
		"F 2, four keys":        func(g *api.Genesis) { g.F = 2 },
		"F 2, six keys":         func(g *api.Genesis) { g.F, g.Keys = 2, keysOf(6) },
		"F 2, eight keys":       func(g *api.Genesis) { g.F, g.Keys = 2, keysOf(8) },
		"F 3, ten keys":         func(g *api.Genesis) { g.F, g.Keys = 3, keysOf(10) },
		"F 3, seven keys":       func(g *api.Genesis) { g.F, g.Keys = 3, keysOf(7) },
		"F -1, no keys":         func(g *api.Genesis) { g.F, g.Keys = -1, nil },
		"F -1, a key":           func(g *api.Genesis) { g.F, g.Keys = -1, keysOf(1) },
		"no Start's Read":       func(g *api.Genesis) { g.Read = 12 },
		"no Start's Write":      func(g *api.Genesis) { g.Write = 5 },
		"no Start's, turned":    func(g *api.Genesis) { g.Read, g.Write = g.Write, g.Read },
		"Start of another Read": func(g *api.Genesis) { g.Start = bytesOf(busy(15, 7)) },
		"Start of other Writes": func(g *api.Genesis) { g.Start = bytesOf(busy(13, 15)) },
		"Start of a byte":       func(g *api.Genesis) { g.Start = []byte{0} },
		"Start, cut":            func(g *api.Genesis) { g.Start = g.Start[:len(g.Start)-1] },
		"Start without a byte":  func(g *api.Genesis) { g.Start = g.Start[1:] },
		"Start and a byte":      func(g *api.Genesis) { g.Start = append(g.Start, 0) },
		"Start twice":           func(g *api.Genesis) { g.Start = bytes.Repeat(g.Start, 2) },
		"Start's item's Owner":  func(g *api.Genesis) { g.Start[11] = 4 },
		"a million noughts":     func(g *api.Genesis) { g.Start = make([]byte, 1<<20) },
		"Start of noughts":      func(g *api.Genesis) { g.Read, g.Write, g.Start = 0, 0, make([]byte, 51) },
	}
	for name, v := range map[string]int{
		"-1": -1, "16": 16, "17": 17, "255": 255, "by 256": 256 + 13, "by 2^32": 1<<32 + 13,
		"the lowest": math.MinInt, "by the lowest": math.MinInt + 13, "the highest": math.MaxInt,
	} {
		turns["Read "+name] = func(g *api.Genesis) { g.Read = v }
		turns["Write "+name] = func(g *api.Genesis) { g.Write = v }
		turns["Read without Start "+name] = func(g *api.Genesis) { g.Read, g.Start = v, nil }
		turns["Write without Start "+name] = func(g *api.Genesis) { g.Write, g.Start = v, nil }
		turns["F "+name] = func(g *api.Genesis) { g.F = v }
	}
	for name, v := range map[string]int{"by 256": 257, "by 2^32": 1<<32 + 1, "by the lowest": math.MinInt + 1} {
		turns["F 1 "+name] = func(g *api.Genesis) { g.F = v }
	}
	return turns
}

// Promise 10.1, 10.2: what may not be.
func TestMayWrong(t *testing.T) {
	for name, turn := range wrongTurns() {
		g := started(1)
		turn(&g)
		refused(t, name, g)
	}
	refused(t, "nothing", api.Genesis{})
	refused(t, "a Start alone", api.Genesis{Read: 15, Write: 15, Start: bytesOf(space.New(15, 15))})
}

// Promise 10.1: an F that is none of the three, of which 3F + 1 comes out as that many keys where numbers wrap round.
func TestMayWhereNumbersWrap(t *testing.T) {
	const third = 0xAAAAAAAAAAAAAAAB // 3 times this is 1, by 2^64
	for keys := range 20 {
		g := api.Genesis{F: int(uint64(keys-1) * third), Read: 13, Write: 7, Keys: keysOf(keys)}
		if 3*g.F+1 != keys {
			t.Fatalf("%d keys: %d", keys, g.F)
		}
		if g.F < 0 || g.F > 2 {
			refused(t, "an F that wraps round", g)
		}
	}
}

// wrongKeys have no key's form.
func wrongKeys() map[string][]byte {
	key := func(head string) []byte { return append([]byte(head), keyOf(1, "k")[len(head):]...) }
	return map[string][]byte{
		"nil":                       nil,
		"empty":                     {},
		"a byte":                    {5},
		"the typecodes alone":       keyOf(1, "k")[:8],
		"55 bytes":                  keyOf(1, "k")[:55],
		"57 bytes":                  append(keyOf(1, "k"), 0),
		"two":                       append(keyOf(1, "k"), keyOf(1, "k")...),
		"one of levels":             append([]byte{0, 0, 0, 1}, keyOf(1, "k")...),
		"noughts":                   make([]byte, 56),
		"typecode 4":                key("\x00\x00\x00\x04"),
		"typecode 6":                key("\x00\x00\x00\x06"),
		"typecode by 256":           key("\x00\x00\x01\x05"),
		"typecode by 2^24":          key("\x01\x00\x00\x05"),
		"the OTS's typecode 0":      key("\x00\x00\x00\x05\x00\x00\x00\x00"),
		"the OTS's typecode 5":      key("\x00\x00\x00\x05\x00\x00\x00\x05"),
		"the OTS's typecode 8":      key("\x00\x00\x00\x05\x00\x00\x00\x08"),
		"the OTS's typecode by 256": key("\x00\x00\x00\x05\x00\x00\x01\x01"),
	}
}

// Promise 10.1, 10.2: a key without the form, at each place.
func TestMayOfWrongKeys(t *testing.T) {
	for name, key := range wrongKeys() {
		for f := range 3 {
			for at := range 3*f + 1 {
				g := started(f)
				g.Keys[at] = key
				refused(t, name, g)
				g.Start = nil
				refused(t, name+", no Start", g)
			}
		}
	}
	shifted := bare(1)
	shifted.Keys[0], shifted.Keys[1] = shifted.Keys[0][:55], append(shifted.Keys[1], 0)
	refused(t, "a byte less and a byte more", shifted)
}

// Promise 10.1: each byte of a Start, in all that it may be.
func TestMayOfEachStart(t *testing.T) {
	g := started(0)
	for at := range g.Start {
		was := g.Start[at]
		for c := range 256 {
			g.Start[at] = byte(c)
			if May(g) != plainMay(g) {
				t.Fatalf("%x", g.Start)
			}
		}
		g.Start[at] = was
	}
	for n := 1; n < len(g.Start); n++ {
		cut := g
		cut.Start = g.Start[:n]
		refused(t, "Start, cut", cut)
	}
}

// Promise 10.1: the space that all begins with.
func TestFirst(t *testing.T) {
	for f := range 3 {
		if s := First(bare(f)); !space.Same(s, space.New(13, 7)) {
			t.Errorf("F %d: %v", f, s)
		}
		if s := First(started(f)); !space.Same(s, busy(13, 7)) {
			t.Errorf("F %d, started: %v", f, s)
		}
	}
	full := bare(0)
	full.Start = bytesOf(fullest(13, 7))
	if s := First(full); !space.Same(s, fullest(13, 7)) {
		t.Errorf("the fullest: %v", s)
	}
}

// Promise 10.1: what begins goes on as the space that was written.
func TestFirstGoesOn(t *testing.T) {
	chance := rand.New(rand.NewSource(101))
	for range 300 {
		s := playedSpace(chance, 15, 15)
		g := bare(0)
		g.Read, g.Write, g.Start = 15, 15, bytesOf(s)
		r := api.Request{Client: chance.Intn(4), Seq: 31, Kind: api.In, P: []api.Field{{Kind: api.Any}}}
		next, replies := space.Do(s, s.Now+1, r)
		other, same := space.Do(First(g), s.Now+1, r)
		if !space.Same(next, other) || len(replies) != len(same) {
			t.Fatalf("%v, %v: %v", s, r, other)
		}
	}
}

// Promise 10.1 (and rule 2): a First is the caller's own.
func TestFirstsShareNothing(t *testing.T) {
	g := started(1)
	first, second := First(g), First(g)
	clear(g.Start)
	clear(first.Items[0].T)
	clear(first.Waiters[0].P)
	clear(first.Last[0].T)
	clear(first.Items)
	clear(first.Waiters)
	if !space.Same(second, busy(13, 7)) || !space.Same(First(started(1)), busy(13, 7)) {
		t.Error("two of them share something, or the Start is kept")
	}
	fresh, other := First(bare(1)), First(bare(1))
	fresh.Read, fresh.Last[1].Client = 0, 0
	if !space.Same(other, space.New(13, 7)) {
		t.Error("two new ones share something")
	}
}

// Promise 10.1, 10.2: such as chance makes, right and wrong.
func TestOfChance(t *testing.T) {
	chance := rand.New(rand.NewSource(102))
	turns := []func(g *api.Genesis){
		func(g *api.Genesis) { g.F = chance.Intn(6) - 1 },
		func(g *api.Genesis) { g.Read = chance.Intn(20) - 2 },
		func(g *api.Genesis) { g.Write = chance.Intn(20) - 2 },
		func(g *api.Genesis) { g.Keys = keysOf(chance.Intn(9)) },
		func(g *api.Genesis) { g.Keys[0] = keyOf(byte(chance.Intn(6)), "z") },
		func(g *api.Genesis) { g.Keys[len(g.Keys)-1] = g.Keys[0][:chance.Intn(57)] },
		func(g *api.Genesis) { g.Start = nil },
		func(g *api.Genesis) { g.Start = g.Start[:chance.Intn(len(g.Start)+1)] },
		func(g *api.Genesis) { g.Start = bytesOf(playedSpace(chance, chance.Intn(16), g.Write&15)) },
		func(g *api.Genesis) { g.Read, g.Write = g.Write, g.Read },
	}
	for range 4000 {
		g := randomGenesis(chance)
		taken(t, "as it may be", g)
		turns[chance.Intn(len(turns))](&g)
		if plainMay(g) {
			taken(t, "turned", g)
		} else {
			refused(t, "turned", g)
		}
	}
}

// Promise 10.1, 10.2 (and rule 2): what is asked is not changed, also behind its end.
func TestAskedIsNotChanged(t *testing.T) {
	for _, f := range []int{0, 1, 2, 3} {
		g := started(f)
		for at, key := range g.Keys {
			g.Keys[at] = append(key, "behind it"...)[:56]
		}
		g.Start = append(g.Start, "behind it"...)[:len(g.Start)]
		g.Keys = append(g.Keys, []byte("behind them"))[:len(g.Keys)]
		was := copyGenesis(g)
		May(g)
		Put(g)
		First(g)
		Anchor(g)
		Link(g)
		Same(g, g)
		if !sameParts(g, was) || string(g.Keys[:len(g.Keys)+1][len(g.Keys)]) != "behind them" {
			t.Fatalf("F %d: %v", f, g)
		}
		for _, key := range append(slices.Clone(g.Keys), g.Start) {
			if string(key[len(key):len(key)+9]) != "behind it" {
				t.Fatalf("F %d: behind the end: %q", f, key[:len(key)+9])
			}
		}
	}
}
