package cert

import (
	"maps"
	"math"
	"math/rand"
	"reflect"
	"slices"
	"testing"

	"chirograph/api"
	"chirograph/space"
	"chirograph/state"
)

// Promise 14.1 and the chapter's example: F 0: one vote.
func TestNeed(t *testing.T) {
	for f, want := range []int{1, 3, 5} {
		for _, g := range []api.Genesis{house(f), started(f)} {
			if n := Need(g); n != want || n != plainNeed(g) {
				t.Errorf("F %d: %d, want %d", f, n, want)
			}
		}
	}
}

// Promise 14.1: 0 of one that may not be.
func TestNeedOfWrongOnes(t *testing.T) {
	for name, turn := range wrongTurns() {
		g := started(1)
		turn(&g)
		if n := Need(g); n != 0 {
			t.Errorf("%s: %d", name, n)
		}
	}
	if n := Need(api.Genesis{}); n != 0 {
		t.Errorf("nothing: %d", n)
	}
	for _, f := range edges() {
		g := house(1)
		g.F = f
		if n := Need(g); n != 0 && f != 1 {
			t.Errorf("F %d with four keys: %d", f, n)
		}
	}
}

// Promise 14.1: whoever votes, as many as are needed, rising.
func TestCheckRight(t *testing.T) {
	for n, g := range houses() {
		for k, who := range choices(len(g.Keys), plainNeed(g)) {
			place := []int{1, 2, 257, api.MaxPlace - 1, api.MaxPlace}[(n+k)%5]
			checked(t, "right", g, place, hashOf(byte(n)), castAll(g, place, hashOf(byte(n)), who), api.OK)
		}
	}
}

// Promise 14.1: a link may be any, that of no bytes too.
func TestCheckOfLinks(t *testing.T) {
	g := house(1)
	for _, link := range []api.Hash{{}, hashOf(0), hashOf(224), plainAnchor(g)} {
		checked(t, "a link", g, 3, link, right(g, 3, link), api.OK)
	}
}

// Promise 14.1: a place that is none, told ahead of what is wrong with the votes, though they be of its text.
func TestCheckArgOfPlaces(t *testing.T) {
	g := house(1)
	for _, place := range edges() {
		l := right(g, place, hashOf(1))
		if place >= 1 && place <= 1<<20 {
			checked(t, "a place", g, place, hashOf(1), l, api.OK)
			checked(t, "a place, no votes", g, place, hashOf(1), nil, api.ErrSig)
			continue
		}
		checked(t, "no place", g, place, hashOf(1), l, api.ErrArg)
		checked(t, "no place, no votes", g, place, hashOf(1), nil, api.ErrArg)
		checked(t, "no place, votes of another", g, place, hashOf(1), right(g, 1, hashOf(1)), api.ErrArg)
	}
}

// Promise 14.1: a genesis that may not be, told ahead of all else.
func TestCheckArgOfGeneses(t *testing.T) {
	l := right(started(1), 5, hashOf(1))
	for name, turn := range wrongTurns() {
		g := started(1)
		turn(&g)
		checked(t, name, g, 5, hashOf(1), l, api.ErrArg)
		checked(t, name+", one vote", g, 5, hashOf(1), l[:1], api.ErrArg)
		checked(t, name+", no votes", g, 5, hashOf(1), nil, api.ErrArg)
		checked(t, name+", no place", g, 0, hashOf(1), l, api.ErrArg)
	}
	checked(t, "nothing", api.Genesis{}, 5, hashOf(1), l, api.ErrArg)
	checked(t, "nothing of nothing", api.Genesis{}, 0, api.Hash{}, nil, api.ErrArg)
}

// Promise 14.1: just so many votes, not fewer and not more, though all check.
func TestCheckSigOfHowMany(t *testing.T) {
	for _, g := range houses() {
		all := castAll(g, 4, hashOf(1), upTo(len(g.Keys)))
		for n := range len(all) + 1 {
			want := api.ErrSig
			if n == plainNeed(g) {
				want = api.OK
			}
			checked(t, "from the first on", g, 4, hashOf(1), all[:n], want)
			checked(t, "up to the last", g, 4, hashOf(1), all[len(all)-n:], want)
		}
		checked(t, "none", g, 4, hashOf(1), []api.Vote{}, api.ErrSig)
		checked(t, "twice all", g, 4, hashOf(1), slices.Concat(all, all), api.ErrSig)
		checked(t, "very many", g, 4, hashOf(1), slices.Repeat(all, 50000), api.ErrSig)
		checked(t, "many that are nothing", g, 4, hashOf(1), make([]api.Vote, 1<<16), api.ErrSig)
	}
}

// Promise 14.1: From rising: no order but one.
func TestCheckSigOfOrders(t *testing.T) {
	for f, who := range [][]int{{0}, {0, 2, 3}, {0, 1, 3, 5, 6}} {
		g := house(f)
		l := castAll(g, 6, hashOf(1), who)
		for n, order := range orders(len(who)) {
			if f == 2 && n%3 > 0 {
				continue
			}
			checked(t, "an order", g, 6, hashOf(1), ordered(l, order), okWhere(n == 0))
		}
	}
}

// Promise 14.1: nobody twice, neither with one vote nor with two that are signed otherwise.
func TestCheckSigOfTwice(t *testing.T) {
	for f := 1; f <= 2; f++ {
		g := house(f)
		l := right(g, 6, hashOf(1))
		for n := range l {
			for m := range l {
				if n == m {
					continue
				}
				other := slices.Clone(l)
				other[m] = l[n]
				checked(t, "twice", g, 6, hashOf(1), other, api.ErrSig)
				slices.SortFunc(other, func(a, b api.Vote) int { return a.From - b.From })
				checked(t, "twice, in turn", g, 6, hashOf(1), other, api.ErrSig)
				other[slices.IndexFunc(other, func(v api.Vote) bool { return v.From == n })] = castBy(g, n, 30, 6, hashOf(1))
				checked(t, "twice, signed otherwise", g, 6, hashOf(1), other, api.ErrSig)
			}
		}
	}
}

// okWhere is what Check tells where place and genesis may be.
func okWhere(holds bool) int {
	if holds {
		return api.OK
	}
	return api.ErrSig
}

// Promise 14.1: each vote, wherever it stands, of that place and link and by who it says.
func TestCheckSigOfTurnedVotes(t *testing.T) {
	for f := range 3 {
		g := house(f)
		l := right(g, 258, hashOf(1))
		for at := range l {
			for name, v := range turnedVotes(g, l[at]) {
				other := slices.Clone(l)
				other[at] = v
				checked(t, name, g, 258, hashOf(1), other, api.ErrSig)
			}
			other := slices.Clone(l)
			other[at] = castBy(g, at, 29, 258, hashOf(1))
			checked(t, "another leaf", g, 258, hashOf(1), other, api.OK)
		}
	}
}

// turnedVotes are made of a vote of place 258 that checks; none of them is for its place and link, and checks.
func turnedVotes(g api.Genesis, v api.Vote) map[string]api.Vote {
	turned := map[string]api.Vote{
		"nothing":             {},
		"another place":       cast(g, v.From, 259, v.Link),
		"the place ahead":     cast(g, v.From, 257, v.Link),
		"place 0":             cast(g, v.From, 0, v.Link),
		"place 258 + 2^32":    cast(g, v.From, 258+1<<32, v.Link),
		"place -258":          cast(g, v.From, -258, v.Link),
		"another link":        cast(g, v.From, v.Place, hashOf(2)),
		"no link":             cast(g, v.From, v.Place, api.Hash{}),
		"place and link":      cast(g, v.From, 259, hashOf(2)),
		"another genesis'":    cast(started(g.F), v.From, v.Place, v.Link),
		"a place's name":      cast(g, v.From, 259, v.Link),
		"a link's name":       cast(g, v.From, v.Place, hashOf(2)),
		"a signature, none":   {Place: v.Place, From: v.From, Link: v.Link},
		"another's signature": cast(g, (v.From+1)%7, v.Place, v.Link),
	}
	add := func(name string, turn func(v *api.Vote)) {
		other := turned[name]
		if other.Sig == nil {
			other = copyVotes([]api.Vote{v})[0]
		}
		turn(&other)
		turned[name] = other
	}
	add("a place's name", func(v *api.Vote) { v.Place = 258 })
	add("a link's name", func(v *api.Vote) { v.Link = hashOf(1) })
	add("another's signature", func(w *api.Vote) { w.From = v.From })
	add("the place alone", func(v *api.Vote) { v.Place = 259 })
	add("the link's first bit", func(v *api.Vote) { v.Link[0] ^= 128 })
	add("the link's last bit", func(v *api.Vote) { v.Link[31] ^= 1 })
	add("the From ahead", func(v *api.Vote) { v.From-- })
	add("the From behind", func(v *api.Vote) { v.From++ })
	add("a From that is none", func(v *api.Vote) { v.From = 7 })
	add("a signature, cut", func(v *api.Vote) { v.Sig = v.Sig[:len(v.Sig)-1] })
	add("a signature, longer", func(v *api.Vote) { v.Sig = append(v.Sig, 0) })
	add("a signature's first bit", func(v *api.Vote) { v.Sig[0] ^= 128 })
	add("a signature's last bit", func(v *api.Vote) { v.Sig[len(v.Sig)-1] ^= 1 })
	add("a signature's middle", func(v *api.Vote) { v.Sig[len(v.Sig)/2] ^= 8 })
	return turned
}

// Promise 14.1: who is none of the replicas, though rising: a signature that does not hold, not an argument that may not be.
func TestCheckSigOfFroms(t *testing.T) {
	for f := range 3 {
		g := house(f)
		l := right(g, 5, hashOf(1))
		for _, from := range []int{math.MinInt, -1 << 32, -256, -1} {
			other := slices.Clone(l)
			other[0].From = from
			checked(t, "ahead of the first", g, 5, hashOf(1), other, api.ErrSig)
		}
		last := len(l) - 1
		for _, from := range []int{3*f + 1, 7, 255, 256, 256 + last, 1<<32 + last, math.MaxInt} {
			other := slices.Clone(l)
			other[last].From = from
			checked(t, "behind the last", g, 5, hashOf(1), other, api.ErrSig)
		}
	}
	g := house(1)
	l := castAll(g, 5, hashOf(1), []int{4, 5, 6}) // who would be there, if there were more
	checked(t, "who is not there", g, 5, hashOf(1), l, api.ErrSig)
	checked(t, "one who is not there", g, 5, hashOf(1), castAll(g, 5, hashOf(1), []int{2, 3, 4}), api.ErrSig)
}

// Promise 14.1: what is asked is what the votes must say, also where all of them say the same.
func TestCheckSigOfAnotherAsked(t *testing.T) {
	for f := range 3 {
		g := house(f)
		l := right(g, 258, hashOf(1))
		for _, place := range []int{1, 257, 259, 2, 258 + 65536, 1 << 20} {
			checked(t, "another place", g, place, hashOf(1), l, api.ErrSig)
		}
		for bit := range 256 {
			link := hashOf(1)
			link[bit/8] ^= 1 << (bit % 8)
			checked(t, "another link", g, 258, link, l, api.ErrSig)
		}
		checked(t, "as it is", g, 258, hashOf(1), l, api.OK)
	}
}

// Promise 14.1: a certificate is one genesis', though others have the same keys.
func TestCheckSigOfOtherGeneses(t *testing.T) {
	later := space.New(15, 15)
	later.Now = 1
	laterBytes, _ := state.Put(later)
	all := []api.Genesis{house(1), started(1), house(0), house(2)}
	for _, turn := range []func(g *api.Genesis){
		func(g *api.Genesis) { g.Read = 14 },
		func(g *api.Genesis) { g.Write = 14 },
		func(g *api.Genesis) { g.Start = laterBytes },
		func(g *api.Genesis) { g.Keys[3] = g.Keys[0] },
		func(g *api.Genesis) { g.Keys[3][55]++ },
	} {
		g := house(1)
		turn(&g)
		all = append(all, g)
	}
	for n, g := range all {
		l := right(mayBe(t, g), 3, hashOf(1))
		for m, other := range all {
			checked(t, "a genesis", other, 3, hashOf(1), l, okWhere(n == m))
			unpickedWhere(t, n != m, other, l)
		}
	}
}

// unpickedWhere holds, where it is said so, that nothing is picked of the votes for place 3.
func unpickedWhere(t *testing.T, wrong bool, g api.Genesis, l []api.Vote) {
	t.Helper()
	if wrong {
		unpicked(t, "a genesis", g, 3, hashOf(1), l, api.ErrSig)
	} else {
		picked(t, "a genesis", g, 3, hashOf(1), l, l)
	}
}

// Promise 14.1: voters are told by their numbers: where two keys are alike, one signature is a vote of each.
func TestCheckOfKeysThatAreAlike(t *testing.T) {
	g := house(1)
	g.Keys[2] = g.Keys[1]
	l := right(mayBe(t, g), 3, hashOf(1))
	checked(t, "alike, by another's tree", g, 3, hashOf(1), l, api.ErrSig)
	l[2] = l[1]
	checked(t, "one twice", g, 3, hashOf(1), l, api.ErrSig)
	l[2].From = 2
	checked(t, "alike", g, 3, hashOf(1), l, api.OK)
	picked(t, "alike", g, 3, hashOf(1), []api.Vote{l[2], l[1], l[0]}, l)
}

// Promise 14.1 (and rule 2): what is asked is not changed, also behind its end, and nothing of it is kept.
func TestCheckedIsNotChanged(t *testing.T) {
	g := started(1)
	l := right(g, 5, hashOf(1))
	for n := range l {
		l[n].Sig = append(l[n].Sig, "behind it"...)[:len(l[n].Sig)]
	}
	l = append(l, api.Vote{From: 99})[:3]
	for _, place := range []int{5, 6, 0} {
		g0, l0 := copyGenesis(g), copyVotes(l)
		e := Check(g, place, hashOf(1), l)
		if !reflect.DeepEqual(copyGenesis(g), g0) || !sameVotes(l, l0) || l[:4][3].From != 99 {
			t.Fatalf("place %d: changed", place)
		}
		for _, v := range l {
			if string(v.Sig[len(v.Sig):len(v.Sig)+9]) != "behind it" {
				t.Fatalf("place %d: behind the end", place)
			}
		}
		if again := Check(g0, place, hashOf(1), l0); again != e {
			t.Fatalf("place %d: error %d, then %d", place, e, again)
		}
	}
	l[1].Sig[100] ^= 1
	checked(t, "turned behind", g, 5, hashOf(1), l, api.ErrSig)
	l[1].Sig[100] ^= 1
	checked(t, "as it was", g, 5, hashOf(1), l, api.OK)
}

// Promises 14.1, 14.2: as plainly, of votes by chance: for two links and two places, some turned, in any order.
func TestOfChance(t *testing.T) {
	chance := rand.New(rand.NewSource(151))
	held, found := 0, 0
	for range 1500 {
		g := houses()[chance.Intn(6)]
		l := chanceVotes(chance, g)
		place, link := 257+chance.Intn(2), hashOf(byte(1+chance.Intn(2)))
		e := Check(g, place, link, l)
		if want := plainCheck(g, place, link, l); e != want {
			t.Fatalf("F %d, place %d, of %v: error %d, want %d", g.F, place, froms(l), e, want)
		}
		got, e2 := Pick(g, place, link, l)
		want, want2 := plainPick(g, place, link, l)
		if e2 != want2 || !sameVotes(got, want) {
			t.Fatalf("F %d, place %d, of %v: %v, error %d, want %v, error %d", g.F, place, froms(l), froms(got), e2, froms(want), want2)
		}
		if e == api.OK {
			held++
		}
		if e2 == api.OK {
			found++
		}
	}
	if held < 50 || found < 200 || found > 1000 {
		t.Errorf("a test that asks too little: %d, %d", held, found)
	}
}

// chanceVotes are mostly such as speak for places 257, 258 and two links; at times just a certificate of them.
func chanceVotes(chance *rand.Rand, g api.Genesis) []api.Vote {
	place, link := 257+chance.Intn(2), hashOf(byte(1+chance.Intn(2)))
	all := choices(len(g.Keys), plainNeed(g))
	l := castAll(g, place, link, all[chance.Intn(len(all))])
	for range chance.Intn(4) {
		from := chance.Intn(len(g.Keys))
		turned := turnedVotes(g, cast(g, from, 258, hashOf(1)))
		names := slices.Sorted(maps.Keys(turned))
		l = slices.Insert(l, chance.Intn(len(l)+1), turned[names[chance.Intn(len(names))]])
		if chance.Intn(2) == 0 {
			l = slices.Insert(l, chance.Intn(len(l)+1), castBy(g, from, chance.Intn(3), place, link))
		}
	}
	if chance.Intn(2) == 0 {
		chance.Shuffle(len(l), func(a, b int) { l[a], l[b] = l[b], l[a] })
	}
	return l
}
