package cert

import (
	"slices"
	"testing"

	"chirograph/api"
)

// both are those who stand in each of the two lists.
func both(a, b []int) []int {
	var l []int
	for _, from := range a {
		if slices.Contains(b, from) {
			l = append(l, from)
		}
	}
	return l
}

// Promise 14.4: whatever two certificates of one place there are, for one link or for two: f + 1 stand in each; and there are two that share no more.
func TestTwoShare(t *testing.T) {
	for f := range 3 {
		g := house(f)
		fewest := 7
		all := choices(3*f+1, 2*f+1)
		for _, who := range all {
			a := castAll(g, 9, hashOf(1), who)
			checked(t, "the one", g, 9, hashOf(1), a, api.OK)
			for _, others := range all {
				b := castAll(g, 9, hashOf(2), others)
				if e := Check(g, 9, hashOf(2), b); e != api.OK {
					t.Errorf("F %d, of %v: error %d", f, others, e)
				}
				shared := both(froms(a), froms(b))
				if len(shared) < f+1 {
					t.Errorf("F %d: of %v and of %v", f, who, others)
				}
				fewest = min(fewest, len(shared))
			}
		}
		if fewest != f+1 {
			t.Errorf("F %d: %d share, at the fewest", f, fewest)
		}
	}
}

// Promise 14.4: no list that is shorter, or that tells somebody twice, takes the place of a certificate: of all lists of votes that check, just those hold that share f + 1 with each other that does.
func TestNoFewerHold(t *testing.T) {
	g := house(1)
	var lists [][]int
	for size := range 5 {
		lists = append(lists, allLists(4, size)...)
	}
	var hold [][]int
	for _, who := range lists {
		e := Check(g, 9, hashOf(1), castAll(g, 9, hashOf(1), who))
		if e != api.OK && e != api.ErrSig {
			t.Errorf("%v: error %d", who, e)
		}
		if e == api.OK {
			hold = append(hold, who)
		}
	}
	if want := choices(4, 3); len(lists) != 1+4+16+64+256 || len(hold) != len(want) {
		t.Errorf("%v, want %v", hold, want)
	}
	for _, a := range hold {
		for _, b := range hold {
			if shared := both(a, b); len(shared) < 2 || len(slices.Compact(slices.Sorted(slices.Values(a)))) != 3 {
				t.Errorf("%v, %v: %v", a, b, shared)
			}
		}
	}
}

// allLists are all lists of so many numbers below n, in each order, some of them twice.
func allLists(n, size int) [][]int {
	if size == 0 {
		return [][]int{nil}
	}
	var all [][]int
	for _, l := range allLists(n, size-1) {
		for k := range n {
			all = append(all, append(slices.Clone(l), k))
		}
	}
	return all
}

// spread are the votes where the first ones vote for both links, and each other one as the number says: for none, the one, or the other.
func spread(g api.Genesis, liars, number int) []api.Vote {
	var l []api.Vote
	for from := range g.Keys {
		choice := 3
		if from >= liars {
			choice = number % 3
			number /= 3
		}
		if choice&1 == 1 {
			l = append(l, cast(g, from, 9, hashOf(1)))
		}
		if choice&2 == 2 {
			l = append(l, cast(g, from, 9, hashOf(2)))
		}
	}
	return l
}

func power(base, n int) int {
	p := 1
	for range n {
		p *= base
	}
	return p
}

// Promise 14.4 (and T1): f that vote for both links make no two certificates, however the honest ones vote, once each; and one, if all of these agree.
func TestLiarsMakeNoTwo(t *testing.T) {
	for f := range 3 {
		g := house(f)
		honest := 2*f + 1
		for number := range power(3, honest) {
			l := spread(g, f, number)
			a, e := Pick(g, 9, hashOf(1), l)
			b, e2 := Pick(g, 9, hashOf(2), l)
			if e == api.OK && e2 == api.OK {
				t.Errorf("F %d: certificates of %v and of %v", f, froms(a), froms(b))
			}
			if ones := power(3, honest) / 2; number == ones && (e != api.OK || e2 != api.ErrSig) { // each digit is 1
				t.Errorf("F %d: all agree: errors %d, %d", f, e, e2)
			}
		}
	}
}

// Promise 14.4 (and T3): where there are certificates for two links of a place, at least f + 1 are told who voted for both, and they are all who did.
func TestMoreLiarsAreTold(t *testing.T) {
	for f := range 3 {
		g := house(f)
		found := 0
		for number := range power(3, 2*f) {
			l := spread(g, f+1, number)
			a, e := Pick(g, 9, hashOf(1), l)
			b, e2 := Pick(g, 9, hashOf(2), l)
			if e != api.OK || e2 != api.OK {
				continue
			}
			found++
			if told := both(froms(a), froms(b)); !slices.Equal(told, upTo(f+1)) {
				t.Errorf("F %d: %v and %v: %v", f, froms(a), froms(b), told)
			}
			checked(t, "the one", g, 9, hashOf(1), a, api.OK)
			checked(t, "the other", g, 9, hashOf(2), b, api.OK)
		}
		if want := []int{1, 2, 6}[f]; found != want { // those of 2f that vote, half for each
			t.Errorf("F %d: %d, want %d", f, found, want)
		}
	}
}
