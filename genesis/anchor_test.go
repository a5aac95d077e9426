package genesis

import (
	"math/rand"
	"slices"
	"testing"

	"chirograph/api"
	"chirograph/sha"
	"chirograph/space"
	"chirograph/state"
)

// Promise 10.2: digests that another program made.
func TestKnown(t *testing.T) {
	for _, k := range []struct {
		name         string
		g            api.Genesis
		anchor, link string
	}{
		{"F 0", bare(0), "d29b4d50bcb7a171014066becbbf49a55f3975fd480d48885ed383cac5dde0b0", "feb091957e9ef3dbf11f942bcb1e1fa4759d89316bced695207b1b1621fb78e9"},
		{"F 0, started", started(0), "5660a903e596a128d0c9bf6aa0d70aaae5d765a46ed5d64bd8d57a48a793e628", "ccd32cb71ec95dde8f8d46dce28699a7dacd840578d8c67cef148fd0e09a9c35"},
		{"F 1", bare(1), "0f48e224451b231f0d5a4be7a870fcb5b5bd8bfdefa121a93c3b1872bccd1e2f", "7f9225f8a004ef46ac7b712296a1df547e01584147c1f0c98ad949d637ec8e29"},
		{"F 2", bare(2), "1d2cb960a80d6c042261646dc62748fdc16a8e33e8f1d7bb71775173af85f53a", "464d89a9799364fd09db085e9add61d7e40921831303db722e8fc8d28d3dd1cb"},
	} {
		if got := sha.Hex(Anchor(k.g)); got != k.anchor {
			t.Errorf("%s: Anchor: %s, want %s", k.name, got, k.anchor)
		}
		if got := sha.Hex(Link(k.g)); got != k.link {
			t.Errorf("%s: Link: %s, want %s", k.name, got, k.link)
		}
	}
}

// Promise 10.2: they are made of just what the chapter names.
func TestMadeOf(t *testing.T) {
	chance := rand.New(rand.NewSource(106))
	for range 500 {
		g := randomGenesis(chance)
		anchor := Anchor(g)
		if anchor != sha.Sum(append([]byte("GENE"), put(t, g)...)) {
			t.Fatalf("%v: Anchor: %x", g, anchor)
		}
		digest, e := state.Digest(First(g))
		if e != api.OK || Link(g) != sha.Sum(slices.Concat([]byte("LINK"), anchor[:], digest[:])) {
			t.Fatalf("%v: Link: %x, error %d", g, Link(g), e)
		}
	}
}

// partTurns change a started genesis of F 1 in one part, so that it is another one that may be.
func partTurns() map[string]func(g *api.Genesis) {
	turns := map[string]func(g *api.Genesis){
		"F 0":                 func(g *api.Genesis) { g.F, g.Keys = 0, g.Keys[:1] },
		"F 2":                 func(g *api.Genesis) { g.F, g.Keys = 2, keysOf(7) },
		"Read":                func(g *api.Genesis) { g.Read, g.Start = 12, bytesOf(busy(12, 7)) },
		"Write":               func(g *api.Genesis) { g.Write, g.Start = 6, bytesOf(busy(13, 6)) },
		"Read and Write":      func(g *api.Genesis) { g.Read, g.Write, g.Start = 7, 13, bytesOf(busy(7, 13)) },
		"no Start":            func(g *api.Genesis) { g.Start = nil },
		"no Start, Read":      func(g *api.Genesis) { g.Start, g.Read = nil, 12 },
		"no Start, Write":     func(g *api.Genesis) { g.Start, g.Write = nil, 6 },
		"a new Start":         func(g *api.Genesis) { g.Start = bytesOf(space.New(13, 7)) },
		"a later Start":       func(g *api.Genesis) { g.Start[7]++ },
		"another last reply":  func(g *api.Genesis) { g.Start[len(g.Start)-27]++ },
		"an OTS's typecode":   func(g *api.Genesis) { g.Keys[3][7] = 1 },
		"keys turned":         func(g *api.Genesis) { g.Keys[0], g.Keys[1] = g.Keys[1], g.Keys[0] },
		"the last ones, too":  func(g *api.Genesis) { g.Keys[2], g.Keys[3] = g.Keys[3], g.Keys[2] },
		"a key that is twice": func(g *api.Genesis) { g.Keys[1] = g.Keys[0] },
	}
	for at := range 4 {
		name := string(rune('0' + at))
		turns["the first byte of the name of key "+name] = func(g *api.Genesis) { g.Keys[at][8]++ }
		turns["the last byte of key "+name] = func(g *api.Genesis) { g.Keys[at][55]++ }
	}
	return turns
}

// Promise 10.3: another genesis has another anchor, and another link.
func TestAnotherGenesis(t *testing.T) {
	seen := map[api.Hash]string{Anchor(started(1)): "the first one", Link(started(1)): "the first one's link"}
	for name, turn := range partTurns() {
		g := started(1)
		turn(&g)
		taken(t, name, g)
		if Same(g, started(1)) {
			t.Errorf("the same: %s", name)
		}
		for _, h := range []api.Hash{Anchor(g), Link(g)} {
			if other, ok := seen[h]; ok || h == (api.Hash{}) {
				t.Errorf("one digest of two: %s, %s", name, other)
			}
			seen[h] = name
		}
	}
}

// Promise 10.3: two have one anchor just where they are the same.
func TestOneAnchor(t *testing.T) {
	chance := rand.New(rand.NewSource(107))
	seen := map[api.Hash]api.Genesis{}
	for range 1000 {
		g := randomGenesis(chance)
		h := Anchor(g)
		if other, ok := seen[h]; ok && !sameParts(other, g) {
			t.Fatalf("%v and %v: %x", other, g, h)
		}
		seen[h] = g
		back := get(t, put(t, g))
		same := copyGenesis(g)
		same.Keys = append(make([][]byte, 0, 100), same.Keys...)
		if Anchor(back) != h || Anchor(same) != h || Link(back) != Link(g) || Link(same) != Link(g) {
			t.Fatalf("%v: %v", g, back)
		}
	}
	nilStart, emptyStart := bare(1), bare(1)
	emptyStart.Start = []byte{}
	if Anchor(nilStart) != Anchor(emptyStart) || Link(nilStart) != Link(emptyStart) || !Same(nilStart, emptyStart) {
		t.Error("nil and empty")
	}
}

// Promise 10.3: a Start that says what no Start would make is another genesis, with the same space.
func TestAnchorOfFreshStart(t *testing.T) {
	with, without := bare(1), bare(1)
	with.Start = bytesOf(space.New(13, 7))
	if !space.Same(First(with), First(without)) {
		t.Error("First")
	}
	if Same(with, without) || Anchor(with) == Anchor(without) || Link(with) == Link(without) {
		t.Error("what is another one has the same anchor")
	}
}

// oddTurns change one part, whatever may be.
func oddTurns() map[string]func(g *api.Genesis) {
	turns := map[string]func(g *api.Genesis){
		"F":              func(g *api.Genesis) { g.F++ },
		"F by 256":       func(g *api.Genesis) { g.F += 256 },
		"Read by 256":    func(g *api.Genesis) { g.Read += 256 },
		"Read -1":        func(g *api.Genesis) { g.Read = -1 },
		"Read alone":     func(g *api.Genesis) { g.Read = 12 },
		"Write by 256":   func(g *api.Genesis) { g.Write += 256 },
		"Write alone":    func(g *api.Genesis) { g.Write = 6 },
		"no keys":        func(g *api.Genesis) { g.Keys = nil },
		"a key less":     func(g *api.Genesis) { g.Keys = g.Keys[:3] },
		"a key more":     func(g *api.Genesis) { g.Keys = append(g.Keys, nil) },
		"a nil key":      func(g *api.Genesis) { g.Keys[2] = nil },
		"a key, cut":     func(g *api.Genesis) { g.Keys[3] = g.Keys[3][:55] },
		"a key, longer":  func(g *api.Genesis) { g.Keys[3] = append(g.Keys[3], 0) },
		"one, cut, ..":   func(g *api.Genesis) { g.Keys[0], g.Keys[1] = g.Keys[0][:55], append([]byte("a"), g.Keys[1]...) },
		"Start, cut":     func(g *api.Genesis) { g.Start = g.Start[:len(g.Start)-1] },
		"Start, longer":  func(g *api.Genesis) { g.Start = append(g.Start, 0) },
		"Start's byte":   func(g *api.Genesis) { g.Start[0]++ },
		"Start's last":   func(g *api.Genesis) { g.Start[len(g.Start)-1]++ },
		"keys and Start": func(g *api.Genesis) { g.Keys, g.Start = nil, nil },
	}
	for name, turn := range partTurns() {
		turns[name+", as it may"] = turn
	}
	return turns
}

// Promise 10.2: Same, of such as may be and may not be.
func TestSame(t *testing.T) {
	for f := range 4 {
		if g, other := started(f), started(f); !Same(g, other) || !Same(g, g) {
			t.Errorf("F %d: not the same", f)
		}
	}
	for name, turn := range oddTurns() {
		g, other := started(1), started(1)
		turn(&other)
		if Same(g, other) || Same(other, g) {
			t.Errorf("the same: %s", name)
		}
		if again := copyGenesis(other); !Same(other, again) || !Same(again, other) {
			t.Errorf("not the same: %s", name)
		}
	}
	if !Same(api.Genesis{}, api.Genesis{Keys: [][]byte{}, Start: []byte{}}) {
		t.Error("nil and empty lists")
	}
	if !Same(api.Genesis{Keys: [][]byte{nil}}, api.Genesis{Keys: [][]byte{{}}}) {
		t.Error("nil and empty keys")
	}
	if Same(api.Genesis{Keys: [][]byte{nil}}, api.Genesis{}) || Same(api.Genesis{Start: []byte{0}}, api.Genesis{}) {
		t.Error("a key or a byte, and none")
	}
}

// Promise 10.2: Same, of such as chance makes.
func TestSameOfChance(t *testing.T) {
	chance := rand.New(rand.NewSource(108))
	few := func() api.Genesis {
		g := api.Genesis{F: chance.Intn(2), Read: chance.Intn(2), Write: chance.Intn(2)}
		for range chance.Intn(3) {
			g.Keys = append(g.Keys, make([]byte, chance.Intn(2)))
		}
		g.Start = make([]byte, chance.Intn(2))
		return g
	}
	for range 20000 {
		if a, b := few(), few(); Same(a, b) != sameParts(a, b) {
			t.Fatalf("%v, %v", a, b)
		}
	}
}
