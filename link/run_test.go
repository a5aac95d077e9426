package link

import (
	"math/rand"
	"reflect"
	"slices"
	"testing"

	"chirograph/api"
	"chirograph/genesis"
	"chirograph/space"
)

// Promise 12.2: of nothing, genesis' Link and First.
func TestRunOfNothing(t *testing.T) {
	chance := rand.New(rand.NewSource(129))
	all := []api.Genesis{bare(0), bare(1), bare(2), started(0), started(1), started(2)}
	for range 200 {
		all = append(all, randomGenesis(chance))
	}
	for _, g := range all {
		for _, l := range [][][]byte{nil, {}, make([][]byte, 0, 3)} {
			h, s, fault := Run(g, l)
			if fault != api.OK || h != genesis.Link(g) || h == (api.Hash{}) || !space.Same(s, genesis.First(g)) || !space.May(s) {
				t.Errorf("%v: %x, %v, error %d", g, h, s, fault)
			}
		}
	}
}

// wrongGeneses are such as may not be.
func wrongGeneses() map[string]api.Genesis {
	l := map[string]api.Genesis{"nothing": {}}
	for name, turn := range map[string]func(g *api.Genesis){
		"F -1":          func(g *api.Genesis) { g.F = -1 },
		"F 0":           func(g *api.Genesis) { g.F = 0 },
		"F 3":           func(g *api.Genesis) { g.F, g.Keys = 3, keysOf(10) },
		"Read 16":       func(g *api.Genesis) { g.Read = 16 },
		"another Read":  func(g *api.Genesis) { g.Read = 15 },
		"Write -1":      func(g *api.Genesis) { g.Write = -1 },
		"another Write": func(g *api.Genesis) { g.Write = 3 },
		"no keys":       func(g *api.Genesis) { g.Keys = nil },
		"a key less":    func(g *api.Genesis) { g.Keys = g.Keys[:3] },
		"a key, cut":    func(g *api.Genesis) { g.Keys[3] = g.Keys[3][:55] },
		"a key's type":  func(g *api.Genesis) { g.Keys[0][7] = 5 },
		"Start, cut":    func(g *api.Genesis) { g.Start = g.Start[1:] },
		"Start, longer": func(g *api.Genesis) { g.Start = append(g.Start, 0) },
	} {
		g := started(1)
		turn(&g)
		l[name] = g
	}
	return l
}

// Promise 12.2: a genesis that may not be, told ahead of all that stands behind it.
func TestRunArg(t *testing.T) {
	for name, g := range wrongGeneses() {
		for _, l := range [][][]byte{nil, {}, {nil}, {at(12, nop(0, 7))}, {at(0, nop(0, 7))}, {at(12, nop(0, 7)), []byte("no")}, {[]byte("no")}} {
			refusedRun(t, name, g, l, api.ErrArg)
		}
	}
}

// Promise 12.2: the error of the first one that fails, wherever it stands, and whatever stands behind it.
func TestRunFirstError(t *testing.T) {
	chance := rand.New(rand.NewSource(130))
	for range 300 {
		g := randomGenesis(chance)
		l, s := played(chance, g, chance.Intn(5))
		l = append(l, at(s.Now+5, nop(0, 1)))
		early, bad := at(s.Now+4, nop(0, 1)), l[0][:chance.Intn(len(l[0]))]
		for place := range len(l) + 1 {
			refusedRun(t, "no entry", g, slices.Insert(slices.Clone(l), place, bad), api.ErrBad)
			refusedRun(t, "no entry, ahead of one that is early", g, append(slices.Insert(slices.Clone(l), place, bad), early), api.ErrBad)
			runAsPlainly(t, g, slices.Insert(slices.Clone(l), place, early))
		}
		refusedRun(t, "early", g, append(slices.Clone(l), early), api.ErrLink)
		refusedRun(t, "early, ahead of one that is not", g, append(slices.Clone(l), early, l[len(l)-1]), api.ErrLink)
		refusedRun(t, "early, ahead of no entry", g, append(slices.Clone(l), early, bad), api.ErrLink)
		refusedRun(t, "early, and nothing", g, append(slices.Clone(l), early, nil), api.ErrLink)
	}
}

// Promise 12.2: what begins with a Start goes on from its time.
func TestRunFromStartsTime(t *testing.T) {
	for _, now := range []int{0, 1, 8} {
		refusedRun(t, "ahead of the Start's time", started(1), [][]byte{at(now, nop(0, 7))}, api.ErrLink)
	}
	for _, now := range []int{9, 10, 1 << 40} {
		if _, s := run(t, started(1), at(now, nop(0, 7))); s.Now != now {
			t.Errorf("at %d: %v", now, s)
		}
	}
}

// Promise 12.2: Step by Step, of chains of all sorts, right and with one entry turned.
func TestRunAsPlainly(t *testing.T) {
	chance := rand.New(rand.NewSource(131))
	faults := map[int]int{}
	for range 800 {
		g := randomGenesis(chance)
		l, _ := played(chance, g, chance.Intn(12))
		h, s := run(t, g)
		for _, b := range l {
			h, s, _ = step(t, h, s, b)
		}
		if all, behind := run(t, g, l...); all != h || !space.Same(behind, s) {
			t.Fatalf("%v, %x: %x, %v", g, l, all, behind)
		}
		if len(l) > 0 {
			n := chance.Intn(len(l))
			l[n] = slices.Clone(l[n])
			l[n][chance.Intn(len(l[n]))] ^= 1 << chance.Intn(8)
		}
		faults[runAsPlainly(t, g, l)]++
	}
	if faults[api.OK] < 100 || faults[api.ErrBad] < 100 || faults[api.ErrLink] < 20 {
		t.Errorf("a test that asks too little: %v", faults)
	}
}

// Promise 12.2: a long chain.
func TestRunOfMany(t *testing.T) {
	var l [][]byte
	for n := range 600 {
		l = append(l, at(n/2, nop(n%4, 1+n/4), out(n%4, 1+n/4, 3, number(int64(n)))))
	}
	runAsPlainly(t, bare(2), l)
	runAsPlainly(t, bare(2), append(l, nil))
}

// Promise 12.2 (and rule 2): what is handed in is not changed, also behind its end, and the space that is answered is the caller's own.
func TestRunIsTheCallersOwn(t *testing.T) {
	chance := rand.New(rand.NewSource(132))
	for n := range 300 {
		g := randomGenesis(chance)
		l, _ := played(chance, g, chance.Intn(4))
		if n%5 == 0 {
			l = append(l, []byte("no"))
		}
		l = append(l, []byte("behind"))
		g.Start = append(g.Start, 77)
		g0, l0 := g, copyTexts(l)
		g0.Keys, g0.Start = copyTexts(g.Keys), slices.Clone(g.Start)
		in := g
		in.Start = g.Start[:len(g.Start)-1]
		h, s, fault := Run(in, l[:len(l)-1])
		want := copySpace(s)
		spoil(s, nil)
		if !reflect.DeepEqual(g, g0) || !reflect.DeepEqual(l, l0) {
			t.Fatalf("%v, %x: %v, %x", g0, l0, g, l)
		}
		if again, behind, same := Run(in, l[:len(l)-1]); again != h || same != fault || !space.Same(behind, want) {
			t.Fatalf("%v, %x: again: %x, %v, error %d", g0, l0, again, behind, same)
		}
	}
}
