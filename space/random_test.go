package space

import (
	"math/rand"

	"chirograph/api"
)

// randomFields are one or two of few fields, so that much matches.
func randomFields(chance *rand.Rand, template bool) []api.Field {
	few := list(number(1), number(2), text("a"), text("b"))
	if template {
		few = append(few, anyOne, anyNumber, anyText)
	}
	l := make([]api.Field, 1+chance.Intn(2))
	for at := range l {
		l[at] = few[chance.Intn(len(few))]
	}
	return l
}

// randomRights are mostly all of them.
func randomRights(chance *rand.Rand) int {
	if chance.Intn(3) == 0 {
		return chance.Intn(16)
	}
	return 15
}

// randomItems are from none to all that there is room for; the owner has as many as the bound says, or less.
func randomItems(chance *rand.Rand, now int) []api.Item {
	var l []api.Item
	var own [4]int
	many := []int{0, chance.Intn(5), chance.Intn(65), 64}[chance.Intn(4)]
	some := 1 + chance.Intn(4)
	for range 4 * many {
		i := api.Item{Owner: chance.Intn(some), T: randomFields(chance, false)}
		if own[i.Owner] == 24 || len(l) == many {
			continue
		}
		if chance.Intn(3) == 0 {
			i.Until = now + 1 + chance.Intn(6)
		}
		own[i.Owner]++
		l = append(l, i)
	}
	return l
}

// randomLast is a client's last reply, of one of few numbers.
func randomLast(chance *rand.Rand, c int) api.Reply {
	l := api.Reply{Client: c, Seq: chance.Intn(5)}
	if l.Seq == 0 {
		return l
	}
	l.Kind = 1 + chance.Intn(6)
	if l.Kind == plainRTuple {
		l.T, l.Late = randomFields(chance, false), chance.Intn(2) == 0
	}
	return l
}

// randomSpace is mostly one that may be.
func randomSpace(chance *rand.Rand) api.Space {
	if chance.Intn(10) == 0 {
		s, turns := whole(), spaceTurns()
		turns[chance.Intn(len(turns))].do(&s)
		return s
	}
	s := New(randomRights(chance), randomRights(chance))
	s.Now = chance.Intn(10)
	if chance.Intn(10) == 0 {
		s.Now = plainMaxTime - chance.Intn(3)
	}
	s.Items = randomItems(chance, s.Now)
	for range []int{0, chance.Intn(4), 15, 16}[chance.Intn(4)] {
		s.Waiters = append(s.Waiters, api.Waiter{Client: chance.Intn(4), Seq: 1 + chance.Intn(6), Take: chance.Intn(3) == 0, P: randomFields(chance, true)})
	}
	for c := range s.Last {
		s.Last[c] = randomLast(chance, c)
	}
	return s
}

// randomRequest is mostly one that may be, and of a number about that of its client's last one.
func randomRequest(chance *rand.Rand, s api.Space) api.Request {
	r := api.Request{Client: chance.Intn(4), Kind: 1 + chance.Intn(8)}
	r.Seq = max(1, s.Last[r.Client].Seq+[]int{-1, 0, 1, 1, 1, 1, 1, 2}[chance.Intn(8)])
	if r.Kind != plainOut && r.Kind != plainNop {
		r.P = randomFields(chance, true)
	}
	if r.Kind == plainOut || r.Kind == plainCas || r.Kind == plainReplace {
		r.T = randomFields(chance, false)
		r.Lease = []int{0, 1 + chance.Intn(6), plainMaxTime}[chance.Intn(3)]
	}
	switch chance.Intn(60) {
	case 0:
		r.Seq = []int{0, -1, plainMaxSeq, plainMaxSeq + 1}[chance.Intn(4)]
	case 1:
		r.Client = []int{-1, 4, 1 << 32}[chance.Intn(3)]
	case 2:
		r.Kind = chance.Intn(12) - 1
	case 3:
		r.T, r.P = r.P, r.T
	}
	return r
}

// randomNow is mostly one that may come behind the space's.
func randomNow(chance *rand.Rand, s api.Space) int {
	return s.Now + []int{0, 0, 0, 0, 1, 1, 2, 5, -1}[chance.Intn(9)]
}
