package link

import (
	"math/rand"
	"slices"
	"testing"

	"chirograph/api"
	"chirograph/genesis"
	"chirograph/space"
)

// linksOf are all links that entries make, genesis' ahead.
func linksOf(t *testing.T, g api.Genesis, l [][]byte) []api.Hash {
	t.Helper()
	h, s := run(t, g)
	links := []api.Hash{h}
	for _, b := range l {
		h, s, _ = step(t, h, s, b)
		links = append(links, h)
	}
	return links
}

// Promise 12.3, 12.4: what the steps say, and what their entries make, are the same links; and so Chain's is Run's at each place.
func TestChainAsRun(t *testing.T) {
	chance := rand.New(rand.NewSource(133))
	for range 200 {
		g := randomGenesis(chance)
		l, _ := played(chance, g, chance.Intn(8))
		links := Chain(genesis.Link(g), stepsOf(t, g, l))
		if !slices.Equal(links, linksOf(t, g, l)) {
			t.Fatalf("%v, %x: %x", g, l, links)
		}
		for n := range links {
			if h, _ := run(t, g, l[:n]...); h != links[n] {
				t.Fatalf("%v, %x, up to %d: %x, want %x", g, l, n, h, links[n])
			}
		}
	}
}

// parts holds that two chains are alike up to a place, and that none of the one's links stands in the other behind it.
func parts(t *testing.T, name string, a, b []api.Hash, place int) {
	t.Helper()
	if !slices.Equal(a[:place], b[:place]) {
		t.Errorf("%s: they part ahead of %d", name, place)
	}
	for _, h := range a[place:] {
		if slices.Contains(b, h) {
			t.Errorf("%s: they meet behind %d", name, place)
		}
	}
}

// Promise 12.4: each bit of each step's digest, and each byte of its entry, makes all links behind it others.
func TestChainSaysEachStep(t *testing.T) {
	chance := rand.New(rand.NewSource(134))
	l := stepsOf(t, bare(1), [][]byte{at(0, nop(0, 1)), at(1, out(1, 1, 0, number(1))), at(1, nop(2, 1)), at(3, ask(0, 2, api.Inp, anyOne))})
	ahead := genesis.Link(bare(1))
	was := Chain(ahead, l)
	for place := range l {
		turned := slices.Clone(l)
		for at := range 32 {
			turned[place] = l[place]
			turned[place].Digest[at] ^= 1 << chance.Intn(8)
			parts(t, "a digest", was, Chain(ahead, turned), place+1)
		}
		turned[place].Digest = l[place].Digest
		for at := range l[place].Entry {
			turned[place].Entry = slices.Clone(l[place].Entry)
			turned[place].Entry[at] ^= 1 << chance.Intn(8)
			parts(t, "an entry", was, Chain(ahead, turned), place+1)
		}
		turned[place].Entry = l[place].Entry[1:]
		parts(t, "a cut entry", was, Chain(ahead, turned), place+1)
		parts(t, "one left out", was, Chain(ahead, slices.Delete(slices.Clone(l), place, place+1)), place+1)
		parts(t, "one twice", was, Chain(ahead, slices.Insert(slices.Clone(l), place, l[place])), place+2)
	}
	for n := range ahead {
		other := ahead
		other[n] ^= 1 << chance.Intn(8)
		parts(t, "what is ahead", was, Chain(other, l), 0)
	}
}

// Promise 12.4: two entries that make the same space make two links, and so do the same ones in another order.
func TestLinkSaysTheEntries(t *testing.T) {
	g := bare(1)
	for name, k := range map[string][2][][]byte{
		"a request twice in an entry":   {{at(0, nop(0, 1))}, {at(0, nop(0, 1), nop(0, 1))}},
		"requests in another order":     {{at(0, nop(0, 1), nop(1, 1))}, {at(0, nop(1, 1), nop(0, 1))}},
		"entries in another order":      {{at(0, nop(0, 1)), at(0, nop(1, 1))}, {at(0, nop(1, 1)), at(0, nop(0, 1))}},
		"together, and one by one":      {{at(0, nop(0, 1), nop(1, 1))}, {at(0, nop(0, 1)), at(0, nop(1, 1))}},
		"an entry that does nothing":    {{at(0, nop(0, 1))}, {at(0, nop(0, 1)), at(0, nop(0, 1))}},
		"times that end alike":          {{at(1, nop(0, 1)), at(2, nop(0, 1))}, {at(2, nop(0, 1)), at(2, nop(0, 1))}},
		"what came and went, and a Nop": {{at(4, out(0, 1, 1, number(1))), at(5, nop(1, 1))}, {at(4, nop(0, 1)), at(5, nop(1, 1))}},
	} {
		h, s := run(t, g, k[0]...)
		other, behind := run(t, g, k[1]...)
		if !space.Same(s, behind) {
			t.Errorf("%s: a test that is wrong: %v, %v", name, s, behind)
		}
		if h == other {
			t.Errorf("%s: one link", name)
		}
		last := at(9, ask(2, 1, api.Rdp, anyOne))
		if h, _, _ := step(t, h, s, last); h == linksOf(t, g, append(k[1], last))[len(k[1])+1] {
			t.Errorf("%s: one link behind the next", name)
		}
	}
}

// Promise 12.4: the same entry, behind the same link, makes another link of another space.
func TestLinkSaysTheSpace(t *testing.T) {
	b := at(9, nop(3, 1))
	seen := map[api.Hash]string{}
	for name, turn := range map[string]func(s *api.Space){
		"as it is":     func(s *api.Space) {},
		"Read":         func(s *api.Space) { s.Read = 12 },
		"Write":        func(s *api.Space) { s.Write = 15 },
		"an owner":     func(s *api.Space) { s.Items[0].Owner = 1 },
		"a lease":      func(s *api.Space) { s.Items[0].Until = 13 },
		"no lease":     func(s *api.Space) { s.Items[0].Until = 0 },
		"a number":     func(s *api.Space) { s.Items[0].T[0].N = 6 },
		"a text":       func(s *api.Space) { s.Items[1].T[0].S = "a" },
		"the order":    func(s *api.Space) { slices.Reverse(s.Items) },
		"an item less": func(s *api.Space) { s.Items = s.Items[:1] },
		"a waiter":     func(s *api.Space) { s.Waiters[0].Take = false },
		"its number":   func(s *api.Space) { s.Waiters[0].Seq = 3 },
		"none waits":   func(s *api.Space) { s.Waiters = nil },
		"late":         func(s *api.Space) { s.Last[0].Late = false },
		"a last Seq":   func(s *api.Space) { s.Last[0].Seq = 5 },
		"a last Kind":  func(s *api.Space) { s.Last[1].Kind = api.RFull },
		"a last tuple": func(s *api.Space) { s.Last[0].T[0].N = 1 },
	} {
		s := busy()
		turn(&s)
		h, _, _ := step(t, hashOf(5), s, b)
		if other, ok := seen[h]; ok {
			t.Errorf("one link: %s, %s", name, other)
		}
		seen[h] = name
	}
}

// Promise 12.4: what is gone by the entry's time is not of the space behind, and so not of the link by itself.
func TestLinkSaysTheSpaceBehind(t *testing.T) {
	s, other := busy(), busy()
	other.Items[0].T[0].N, other.Now = 6, 10
	b := at(12, nop(3, 1))
	h, behind, _ := step(t, hashOf(5), s, b)
	if again, same, _ := step(t, hashOf(5), other, b); again != h || !space.Same(behind, same) {
		t.Errorf("%x, %v: %x, %v", h, behind, again, same)
	}
}

// Promise 12.4: the same entries from another genesis make other links, at all places.
func TestLinkSaysGenesis(t *testing.T) {
	l := [][]byte{at(9, nop(0, 7)), at(12, out(0, 8, 0, number(1)))}
	fresh := bare(1)
	fresh.Start = bytesOf(space.New(15, 15))
	all := []api.Genesis{bare(0), bare(1), bare(2), fresh, started(0), started(1), started(2)}
	for n := range 4 {
		g := bare(1)
		g.Keys[n][55]++
		all = append(all, g)
	}
	seen := map[api.Hash]int{}
	for n, g := range all {
		for _, h := range linksOf(t, g, l) {
			if other, ok := seen[h]; ok {
				t.Errorf("one link: %d, %d", n, other)
			}
			seen[h] = n
		}
	}
}

// Promise 12.4 (and T1, T3): of histories of few entries, two have one link just where they are the same; and then they have the same space.
func TestOneLinkOneHistory(t *testing.T) {
	chance := rand.New(rand.NewSource(135))
	from := [][]byte{at(0, nop(0, 1)), at(0, nop(1, 1)), at(1, out(0, 1, 0, number(1))), at(1, ask(1, 1, api.Inp, anyOne))}
	geneses := []api.Genesis{bare(0), bare(1)}
	histories, spaces := map[api.Hash]string{}, map[api.Hash]api.Space{}
	links := map[string]api.Hash{}
	met := 0
	for range 1500 {
		n := chance.Intn(2)
		h, s := run(t, geneses[n])
		history := string(rune('0' + n))
		for range 5 {
			at := chance.Intn(4)
			next, behind, _, fault := Step(h, s, from[at])
			if fault != api.OK {
				break
			}
			h, s, history = next, behind, history+string(rune('a'+at))
			if other, ok := histories[h]; ok {
				met++
				if other != history || !space.Same(spaces[h], s) {
					t.Fatalf("one link: %s, %s", other, history)
				}
			}
			if other, ok := links[history]; ok && other != h {
				t.Fatalf("two links: %s", history)
			}
			histories[h], spaces[h], links[history] = history, s, h
		}
	}
	if len(histories) < 200 || met < 200 {
		t.Errorf("a test that asks too little: %d, %d", len(histories), met)
	}
}
