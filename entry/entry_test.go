package entry

import (
	"math"
	"math/rand"
	"slices"
	"strings"
	"testing"

	"chirograph/api"
)

// Promise 11.1: what may be, at its edges.
func TestMayRight(t *testing.T) {
	taken(t, "the chapter's example", at(0, nop(0, 1)))
	taken(t, "one of each kind", ofEachKind())
	taken(t, "the largest", largest())
	for _, now := range []int{0, 1, 255, 256, 1<<32 - 1, 1 << 32, 1<<40 - 1, 1 << 40} {
		for many := 1; many <= 8; many++ {
			taken(t, "Nops", at(now, nops(many)...))
		}
	}
	for _, r := range ofEachKind().List {
		taken(t, "one alone", at(3, r))
		taken(t, "one eight times", at(3, slices.Repeat([]api.Request{r}, 8)...))
	}
	taken(t, "older ones behind newer ones", at(3, nop(1, 9), nop(1, 8), nop(1, 9)))
	taken(t, "empty lists", at(3, api.Request{Seq: 1, Kind: api.Nop, P: list(), T: list()}))
}

// Promise 11.1, 11.2: a time, or a number of requests, that may not be.
func TestMayWrong(t *testing.T) {
	for name, now := range map[string]int{
		"-1": -1, "MaxTime + 1": 1<<40 + 1, "the lowest": math.MinInt, "the highest": math.MaxInt,
		"-MaxTime": -1 << 40, "twice MaxTime": 1 << 41, "by 2^62": 1 << 62, "by the lowest": math.MinInt + 5,
	} {
		refused(t, "Now "+name, at(now, nop(0, 1)))
		refused(t, "Now "+name+", of eight", at(now, nops(8)...))
		refused(t, "Now "+name+", of none", at(now))
		refused(t, "Now "+name+", of nine", at(now, nops(9)...))
	}
	for _, now := range []int{0, 9, 1 << 40} {
		refused(t, "nil", api.Entry{Now: now})
		refused(t, "empty", api.Entry{Now: now, List: []api.Request{}})
		refused(t, "empty, with room", api.Entry{Now: now, List: nops(8)[:0]})
		for _, many := range []int{9, 10, 16, 255, 256, 257, 264, 1 << 16, 1<<16 + 1} {
			refused(t, "too many", at(now, nops(many)...))
		}
	}
}

// wrongRequests are some that may not be.
func wrongRequests() map[string]api.Request {
	lease := nop(0, 1)
	lease.Lease = 1
	return map[string]api.Request{
		"nothing":           {},
		"Client -1":         nop(-1, 1),
		"Client 4":          nop(4, 1),
		"Client 256":        nop(256, 1),
		"Client by 2^32":    nop(1<<32, 1),
		"Seq 0":             nop(0, 0),
		"Seq -1":            nop(0, -1),
		"Seq 2^30 + 1":      nop(0, 1<<30+1),
		"Seq by 2^32":       nop(0, 1<<32+1),
		"the lowest Seq":    nop(0, math.MinInt),
		"Kind 0":            {Seq: 1},
		"Kind 9":            {Seq: 1, Kind: 9},
		"Kind by 256":       {Seq: 1, Kind: 256 + api.Nop},
		"Nop with a Lease":  lease,
		"Nop with P":        {Seq: 1, Kind: api.Nop, P: list(anyOne)},
		"Nop with T":        {Seq: 1, Kind: api.Nop, T: list(number(1))},
		"Out without T":     out(0, 1),
		"Out of a template": out(0, 1, anyOne),
		"Out of 7 fields":   out(0, 1, slices.Repeat(list(number(1)), 7)...),
		"Out of 41 letters": out(0, 1, text(strings.Repeat("x", 41))),
		"Out, Lease -1":     leased(0, 1, -1, number(1)),
		"Out, too long":     leased(0, 1, 1<<40+1, number(1)),
		"In without P":      ask(0, 1, api.In),
		"Cas without T":     {Seq: 1, Kind: api.Cas, P: list(anyOne)},
		"Replace without P": {Seq: 1, Kind: api.Replace, T: list(number(1))},
	}
}

// Promise 11.1, 11.2: a request that may not be, at each place: none of the others is done either.
func TestMayOfWrongRequests(t *testing.T) {
	for name, wrong := range wrongRequests() {
		for many := 1; many <= 8; many++ {
			for place := range many {
				e := at(9, nops(many)...)
				e.List[place] = wrong
				refused(t, name, e)
			}
		}
		e := ofEachKind()
		e.List[7] = wrong
		refused(t, name+", behind one of each other kind", e)
		e.List = append(e.List, nop(0, 1))
		refused(t, name+", and too many", e)
	}
}

// Promise 11.1, 11.2: such as chance makes, right and wrong.
func TestOfChance(t *testing.T) {
	chance := rand.New(rand.NewSource(111))
	turns := []func(e *api.Entry){
		func(e *api.Entry) { e.Now = chance.Intn(4) - 2 },
		func(e *api.Entry) { e.Now = 1<<40 + chance.Intn(4) - 2 },
		func(e *api.Entry) { e.List = e.List[:chance.Intn(len(e.List))] },
		func(e *api.Entry) { e.List = slices.Repeat(e.List, 1+chance.Intn(4)) },
		func(e *api.Entry) { e.List[chance.Intn(len(e.List))].Client = chance.Intn(7) - 1 },
		func(e *api.Entry) { e.List[chance.Intn(len(e.List))].Seq = chance.Intn(3) - 1 },
		func(e *api.Entry) { e.List[chance.Intn(len(e.List))].Kind = chance.Intn(11) },
		func(e *api.Entry) { e.List[chance.Intn(len(e.List))].Lease = chance.Intn(3) - 1 },
		func(e *api.Entry) { e.List[chance.Intn(len(e.List))].P = few(chance, true) },
		func(e *api.Entry) { e.List[chance.Intn(len(e.List))].T = few(chance, true) },
	}
	right := 0
	for range 8000 {
		e := anyEntry(chance)
		taken(t, "as it may be", e)
		turns[chance.Intn(len(turns))](&e)
		if plainMay(e) {
			right++
			taken(t, "turned", e)
		} else {
			refused(t, "turned", e)
		}
	}
	if right < 1000 || right > 7000 {
		t.Errorf("a test that asks too little: %d", right)
	}
}

// Promise 11.1 (and rule 2): what is asked is not changed, also behind its end.
func TestAskedIsNotChanged(t *testing.T) {
	chance := rand.New(rand.NewSource(112))
	for range 500 {
		e := anyEntry(chance)
		if chance.Intn(3) == 0 {
			e.List[chance.Intn(len(e.List))].Seq = 0
		}
		e.List = append(e.List, nop(3, 77))[:len(e.List)]
		was := copyEntry(e)
		May(e)
		Put(e)
		if !sameParts(e, was) || e.List[:len(e.List)+1][len(e.List)].Seq != 77 {
			t.Fatalf("%v: %v", was, e)
		}
	}
}
