package vote

import (
	"math/rand"
	"slices"
	"testing"

	"chirograph/api"
)

// ballot is what a vote says, without the signature.
type ballot struct {
	place, from int
	link        api.Hash
}

// castAll signs ballots, each by a leaf of its own.
func castAll(g api.Genesis, l []ballot) []api.Vote {
	var used [7]int
	var votes []api.Vote
	for _, b := range l {
		votes = append(votes, cast(g, b.from, used[b.from], b.place, b.link))
		used[b.from]++
	}
	return votes
}

// mixed are all votes whose parts stand, each by itself, in some of these.
func mixed(l []api.Vote) []api.Vote {
	var places, froms []int
	var links []api.Hash
	for _, v := range l {
		if !slices.Contains(places, v.Place) {
			places = append(places, v.Place)
		}
		if !slices.Contains(froms, v.From) {
			froms = append(froms, v.From)
		}
		if !slices.Contains(links, v.Link) {
			links = append(links, v.Link)
		}
	}
	var all []api.Vote
	for _, place := range places {
		for _, from := range froms {
			for _, link := range links {
				for _, v := range l {
					all = append(all, api.Vote{Place: place, From: from, Link: link, Sig: v.Sig})
				}
			}
		}
	}
	return all
}

// twice tells who has, at which place, votes that check for more links than one, rising.
func twice(g api.Genesis, l []api.Vote) [][2]int {
	links := map[[2]int]map[api.Hash]int{}
	for _, v := range l {
		if Check(g, v) != api.OK {
			continue
		}
		who := [2]int{v.Place, v.From}
		if links[who] == nil {
			links[who] = map[api.Hash]int{}
		}
		links[who][v.Link]++
	}
	var told [][2]int
	for who, of := range links {
		if len(of) > 1 {
			told = append(told, who)
		}
	}
	slices.SortFunc(told, func(a, b [2]int) int { return slices.Compare(a[:], b[:]) })
	return told
}

// Promise 13.3 (and T1): who voted for two links of one place is told by his votes alone; nobody else, also where the parts of all votes are mixed; and what checks was cast.
func TestTwiceIsTold(t *testing.T) {
	chance := rand.New(rand.NewSource(148))
	links := []api.Hash{hashOf(1), hashOf(2)}
	for f := range 3 {
		g := house(f)
		var ballots []ballot
		var want [][2]int
		for place := 1; place <= 2; place++ {
			for from := range 3*f + 1 {
				first := chance.Intn(2)
				ballots = append(ballots, ballot{place, from, links[first]})
				if from <= f && place == 2 { // f of them, and one, lie there
					ballots = append(ballots, ballot{place, from, links[1-first]})
					want = append(want, [2]int{place, from})
				}
			}
		}
		votes := castAll(g, ballots)
		for _, v := range votes {
			checked(t, "as it was cast", g, v, api.OK)
		}
		all := mixed(votes)
		if told := twice(g, votes); !slices.Equal(told, want) {
			t.Errorf("F %d: %v, want %v", f, told, want)
		}
		if told := twice(g, all); !slices.Equal(told, want) {
			t.Errorf("F %d, mixed: %v, want %v", f, told, want)
		}
		for _, v := range all {
			cast := slices.ContainsFunc(votes, func(w api.Vote) bool { return Same(v, w) })
			if e := Check(g, v); e != okWhere(cast) {
				t.Fatalf("F %d: place %d, from %d: error %d, cast: %v", f, v.Place, v.From, e, cast)
			}
		}
	}
}

// Promise 13.3: two signatures for one link are not two links.
func TestTwiceForOneLink(t *testing.T) {
	g := house(1)
	a, b := cast(g, 1, 0, 4, hashOf(1)), cast(g, 1, 1, 4, hashOf(1))
	checked(t, "the one", g, a, api.OK)
	checked(t, "the other", g, b, api.OK)
	if Same(a, b) || len(twice(g, []api.Vote{a, b})) != 0 {
		t.Error("told")
	}
}

// Promise 13.3: two links of two places, and of two geneses, are no fault; and the votes of the one make none in the other.
func TestOnceInEach(t *testing.T) {
	g, other := house(1), started(1)
	l := castAll(g, []ballot{{1, 0, hashOf(1)}, {2, 0, hashOf(2)}, {1, 1, hashOf(1)}, {2, 1, hashOf(2)}})
	m := castAll(other, []ballot{{1, 0, hashOf(3)}, {2, 0, hashOf(1)}, {1, 1, hashOf(2)}, {2, 1, hashOf(3)}})
	both := mixed(slices.Concat(l, m))
	for _, in := range []api.Genesis{g, other} {
		if told := twice(in, both); len(told) != 0 {
			t.Errorf("told: %v", told)
		}
	}
	for _, v := range l {
		checked(t, "its own", g, v, api.OK)
		checked(t, "in the other", other, v, api.ErrSig)
	}
	for _, v := range m {
		checked(t, "its own", other, v, api.OK)
		checked(t, "in the other", g, v, api.ErrSig)
	}
}

// Promise 13.3: what tells of it is told as well once it was written and read.
func TestTwiceIsToldOfBytes(t *testing.T) {
	g := house(2)
	var read []api.Vote
	for _, v := range castAll(g, []ballot{{9, 6, hashOf(1)}, {9, 6, hashOf(2)}, {9, 5, hashOf(1)}, {8, 5, hashOf(2)}}) {
		read = append(read, get(t, put(t, v)))
	}
	if told := twice(g, read); !slices.Equal(told, [][2]int{{9, 6}}) {
		t.Errorf("told: %v", told)
	}
}
