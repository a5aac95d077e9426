package cert

import (
	"math"
	"reflect"
	"slices"
	"testing"

	"chirograph/api"
)

// Promise 14.2: just as many as are needed, in any order: they are picked by From.
func TestPickOfOrders(t *testing.T) {
	for f, who := range [][]int{{0}, {0, 2, 3}, {0, 1, 3, 5, 6}} {
		g := house(f)
		l := castAll(g, 6, hashOf(1), who)
		for n, order := range orders(len(who)) {
			if f < 2 || n%7 == 0 {
				picked(t, "an order", g, 6, hashOf(1), ordered(l, order), l)
			}
		}
	}
}

// Promise 14.2: of whoever votes, the first ones by From, as many as are needed; nothing of fewer.
func TestPickOfWhoever(t *testing.T) {
	for _, g := range houses() {
		for many := range len(g.Keys) + 1 {
			for n, who := range choices(len(g.Keys), many) {
				place := []int{1, 2, 257, api.MaxPlace - 1, api.MaxPlace}[n%5]
				l := castAll(g, place, hashOf(1), who)
				turned := slices.Clone(l)
				slices.Reverse(turned)
				if need := plainNeed(g); many >= need {
					picked(t, "rising", g, place, hashOf(1), l, l[:need])
					picked(t, "falling", g, place, hashOf(1), turned, l[:need])
				} else {
					unpicked(t, "too few", g, place, hashOf(1), l, api.ErrSig)
					unpicked(t, "too few, falling", g, place, hashOf(1), turned, api.ErrSig)
				}
			}
		}
	}
}

// Promise 14.2: the first one of each From, wherever the others stand.
func TestPickOfTheFirst(t *testing.T) {
	for f := range 3 {
		g := house(f)
		var first, second, third []api.Vote
		for from := range g.Keys {
			first = append(first, castBy(g, from, 0, 9, hashOf(1)))
			second = append(second, castBy(g, from, 1, 9, hashOf(1)))
			third = append(third, castBy(g, from, 2, 9, hashOf(1)))
		}
		need := plainNeed(g)
		picked(t, "lists", g, 9, hashOf(1), slices.Concat(first, second, third), first[:need])
		picked(t, "lists turned", g, 9, hashOf(1), slices.Concat(third, second, first), third[:need])
		falling := slices.Concat(first, second)
		slices.Reverse(falling)
		picked(t, "falling", g, 9, hashOf(1), falling, second[:need])
		var pairs, mixed []api.Vote
		for from := range g.Keys {
			pairs = append(pairs, second[from], first[from], third[from])
			mixed = append(mixed, [][]api.Vote{first, second, third}[from%3][from])
		}
		picked(t, "pairs", g, 9, hashOf(1), pairs, second[:need])
		picked(t, "mixed", g, 9, hashOf(1), slices.Concat(mixed, first, second, third), mixed[:need])
		unpicked(t, "one short, but twice", g, 9, hashOf(1), slices.Concat(first[:need-1], second[:need-1], third[:need-1]), api.ErrSig)
		if f > 0 {
			picked(t, "the last one late", g, 9, hashOf(1), slices.Concat(first[1:], second[1:], third[:1]), slices.Concat(third[:1], first[1:need]))
		}
	}
}

// Promise 14.2: what does not check, or is for another place or link, is as if it were not there: it stands in nobody's way, also not his own.
func TestPickOverTurnedVotes(t *testing.T) {
	for f := range 3 {
		g := house(f)
		all := castAll(g, 258, hashOf(1), upTo(len(g.Keys)))
		need := plainNeed(g)
		for from := 0; from < len(g.Keys); from += 1 + 2*f {
			for name, v := range turnedVotes(g, all[from]) {
				ahead := slices.Concat([]api.Vote{v}, all)
				picked(t, name, g, 258, hashOf(1), ahead, all[:need])
				picked(t, name, g, 258, hashOf(1), slices.Concat(all, []api.Vote{v, v}), all[:need])
				other := slices.Clone(all)
				other[from] = v
				left := slices.Concat(all[:from], all[from+1:])
				if f == 0 {
					unpicked(t, name, g, 258, hashOf(1), other, api.ErrSig)
				} else {
					picked(t, name, g, 258, hashOf(1), other, left[:need])
				}
				if from < need {
					unpicked(t, name, g, 258, hashOf(1), other[:need], api.ErrSig)
				}
			}
		}
	}
}

// Promise 14.2: all turned ones at once, ahead of those that hold, between them, and alone.
func TestPickOverAllTurnedVotes(t *testing.T) {
	for f := range 3 {
		g := house(f)
		var turned, between []api.Vote
		all := castAll(g, 258, hashOf(1), upTo(len(g.Keys)))
		for from := range g.Keys {
			for _, v := range turnedVotes(g, all[from]) {
				turned = append(turned, v)
				between = append(between, v)
			}
			between = append(between, all[from])
		}
		need := plainNeed(g)
		picked(t, "ahead", g, 258, hashOf(1), slices.Concat(turned, all), all[:need])
		picked(t, "between", g, 258, hashOf(1), between, all[:need])
		unpicked(t, "alone", g, 258, hashOf(1), turned, api.ErrSig)
		unpicked(t, "with one less", g, 258, hashOf(1), slices.Concat(turned, all[:need-1], turned), api.ErrSig)
	}
}

// Promise 14.2: who is none of the replicas is not picked, whatever his number.
func TestPickOfFroms(t *testing.T) {
	for f := range 3 {
		g := house(f)
		need := plainNeed(g)
		all := castAll(g, 5, hashOf(1), upTo(len(g.Keys)))
		var others []api.Vote
		for _, from := range append(edges(), 7, 8, 9, -3, -5) {
			if from < 0 || from > 3*f {
				v := all[0]
				v.From = from
				others = append(others, v)
			}
		}
		for from := 3*f + 1; from < 7; from++ { // who would be there, if there were more
			others = append(others, cast(g, from, 5, hashOf(1)))
		}
		picked(t, "others ahead", g, 5, hashOf(1), slices.Concat(others, all), all[:need])
		unpicked(t, "others alone", g, 5, hashOf(1), others, api.ErrSig)
		unpicked(t, "one less, and others", g, 5, hashOf(1), slices.Concat(all[:need-1], others), api.ErrSig)
	}
}

// Promise 14.2: votes for two places and two links, one among the other: just those that are asked for.
func TestPickOfWhatIsAsked(t *testing.T) {
	g := house(1)
	whose := map[int]map[byte][]int{3: {1: {0, 1, 3}, 2: {1, 2, 3}}, 4: {1: {0, 2, 3}, 2: {0, 1}}}
	var l []api.Vote
	for from := 3; from >= 0; from-- {
		for place, of := range whose {
			for link, who := range of {
				if slices.Contains(who, from) {
					l = append(l, cast(g, from, place, hashOf(link)))
				}
			}
		}
	}
	picked(t, "3, the one", g, 3, hashOf(1), l, castAll(g, 3, hashOf(1), []int{0, 1, 3}))
	picked(t, "3, the other", g, 3, hashOf(2), l, castAll(g, 3, hashOf(2), []int{1, 2, 3}))
	picked(t, "4, the one", g, 4, hashOf(1), l, castAll(g, 4, hashOf(1), []int{0, 2, 3}))
	unpicked(t, "4, the other", g, 4, hashOf(2), l, api.ErrSig)
	unpicked(t, "another link", g, 3, hashOf(3), l, api.ErrSig)
	unpicked(t, "another place", g, 5, hashOf(1), l, api.ErrSig)
}

// Promise 14.2: none at all, and very many.
func TestPickOfNoneAndMany(t *testing.T) {
	for f := range 3 {
		g := house(f)
		all := castAll(g, 5, hashOf(1), upTo(len(g.Keys)))
		unpicked(t, "nil", g, 5, hashOf(1), nil, api.ErrSig)
		unpicked(t, "none", g, 5, hashOf(1), []api.Vote{}, api.ErrSig)
		unpicked(t, "nothing, often", g, 5, hashOf(1), make([]api.Vote, 1<<16), api.ErrSig)
		often := slices.Concat(slices.Repeat([]api.Vote{{Place: 5, From: -1, Link: hashOf(1)}}, 1000), make([]api.Vote, 1<<16), all)
		picked(t, "behind nothing, often", g, 5, hashOf(1), often, all[:plainNeed(g)])
		often = slices.Concat(slices.Repeat(all[len(all)-1:], 20000), all)
		picked(t, "behind one, often", g, 5, hashOf(1), often, all[:plainNeed(g)])
	}
}

// Promise 14.2: a place that is none, whatever is there.
func TestPickArgOfPlaces(t *testing.T) {
	g := house(1)
	for _, place := range append(edges(), math.MaxInt32, math.MinInt32) {
		l := castAll(g, place, hashOf(1), []int{0, 1, 2, 3})
		if place >= 1 && place <= 1<<20 {
			picked(t, "a place", g, place, hashOf(1), l, l[:3])
			unpicked(t, "a place, no votes", g, place, hashOf(1), nil, api.ErrSig)
			continue
		}
		unpicked(t, "no place", g, place, hashOf(1), l, api.ErrArg)
		unpicked(t, "no place, no votes", g, place, hashOf(1), nil, api.ErrArg)
		unpicked(t, "no place, votes of another", g, place, hashOf(1), right(g, 1, hashOf(1)), api.ErrArg)
	}
}

// Promise 14.2: a genesis that may not be, told ahead of all else.
func TestPickArgOfGeneses(t *testing.T) {
	l := castAll(started(1), 5, hashOf(1), []int{0, 1, 2, 3})
	for name, turn := range wrongTurns() {
		g := started(1)
		turn(&g)
		unpicked(t, name, g, 5, hashOf(1), l, api.ErrArg)
		unpicked(t, name+", no votes", g, 5, hashOf(1), nil, api.ErrArg)
		unpicked(t, name+", no place", g, 0, hashOf(1), l, api.ErrArg)
	}
	unpicked(t, "nothing", api.Genesis{}, 5, hashOf(1), l, api.ErrArg)
	unpicked(t, "nothing of nothing", api.Genesis{}, 0, api.Hash{}, nil, api.ErrArg)
}

// Promise 14.2 (and rule 3): the same votes in the same order, each time.
func TestPickedTheSame(t *testing.T) {
	g := house(2)
	l := castAll(g, 5, hashOf(1), []int{6, 3, 5, 1, 4, 0, 2})
	want := castAll(g, 5, hashOf(1), upTo(5))
	for range 60 {
		if got, e := Pick(g, 5, hashOf(1), l); e != api.OK || !sameVotes(got, want) {
			t.Fatalf("%v, error %d", froms(got), e)
		}
	}
}

// Promise 14.2 (and rule 2): what is answered is the caller's own, and what is asked is not changed, nor kept.
func TestPickSharesNothing(t *testing.T) {
	g := started(1)
	l := castAll(g, 5, hashOf(1), []int{3, 2, 0})
	for n := range l {
		l[n].Sig = append(l[n].Sig, "behind it"...)[:len(l[n].Sig)]
	}
	l = append(l, api.Vote{From: 99})[:3]
	g0, l0 := copyGenesis(g), copyVotes(l)
	want := ordered(l0, []int{2, 1, 0})
	first, _ := Pick(g, 5, hashOf(1), l)
	second, _ := Pick(g, 5, hashOf(1), l)
	for n := range first {
		clear(first[n].Sig[:cap(first[n].Sig)])
		if !sameVotes(first[n+1:], want[n+1:]) {
			t.Fatal("two votes of an answer share bytes")
		}
	}
	clear(first[:cap(first)])
	if !sameVotes(second, want) {
		t.Error("two answers share something")
	}
	if !reflect.DeepEqual(copyGenesis(g), g0) || !sameVotes(l, l0) || l[:4][3].From != 99 {
		t.Error("changed")
	}
	for n := range l {
		if string(l[n].Sig[len(l[n].Sig):len(l[n].Sig)+9]) != "behind it" {
			t.Error("changed behind its end")
		}
		clear(l[n].Sig)
	}
	if !sameVotes(second, want) {
		t.Error("an answer shares bytes with what was asked")
	}
	clear(l)
	unpicked(t, "cleared behind", g, 5, hashOf(1), l, api.ErrSig)
	picked(t, "as it was", g, 5, hashOf(1), l0, want)
}

// Promise 14.2 (and rule 2): one signature that two votes have is answered twice over.
func TestPickOfSharedSignatures(t *testing.T) {
	g := house(1)
	g.Keys[2] = g.Keys[1]
	l := right(mayBe(t, g), 3, hashOf(1))
	l[2] = l[1]
	l[2].From = 2
	got, e := Pick(g, 3, hashOf(1), l)
	if e != api.OK || len(got) != 3 {
		t.Fatalf("%v, error %d", froms(got), e)
	}
	clear(got[1].Sig)
	if !sameVotes(got[2:], l[2:]) {
		t.Error("two votes of an answer share bytes")
	}
}
