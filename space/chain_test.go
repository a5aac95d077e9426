package space

import (
	"math/rand"
	"reflect"
	"slices"
	"testing"

	"chirograph/api"
)

// copyRequest gives the request with lists of its own.
func copyRequest(r api.Request) api.Request {
	r.P, r.T = slices.Clone(r.P), slices.Clone(r.T)
	return r
}

// Promise 8.1, 8.2: May and Do are as the chapter says, of spaces and requests of all sorts.
func TestAsPlainly(t *testing.T) {
	chance := rand.New(rand.NewSource(82))
	var kinds [8]int
	lates := 0
	for range 60000 {
		s := randomSpace(chance)
		if May(s) != plainMay(s) {
			t.Fatalf("May of %v", s)
		}
		r, now := randomRequest(chance, s), randomNow(chance, s)
		got, told := Do(s, now, r)
		want, wantTold := plainDo(s, now, r)
		if !sameParts(got, want) || !sameTold(told, wantTold) {
			t.Fatalf("%v\nat %d: %v\ntold %v, want %v\n%v, want %v", s, now, r, told, wantTold, got, want)
		}
		if len(told) > 0 {
			kinds[told[0].Kind]++
			lates += len(told) - 1
		}
	}
	if slices.Min(kinds[1:]) < 500 || lates < 500 {
		t.Errorf("a test that asks too little: %v, late %d", kinds, lates)
	}
}

// Promise 8.3: a space that may be stays one, however many requests come, and each is as the chapter says.
func TestStays(t *testing.T) {
	for seed := range int64(40) {
		chance := rand.New(rand.NewSource(seed))
		s := New(randomRights(chance), randomRights(chance))
		for range 500 {
			r, now := randomRequest(chance, s), randomNow(chance, s)
			want, wantTold := plainDo(s, now, r)
			got, told := Do(s, now, r)
			if !May(got) || !sameParts(got, want) || !sameTold(told, wantTold) {
				t.Fatalf("%v\nat %d: %v\ntold %v, want %v\n%v, want %v", s, now, r, told, wantTold, got, want)
			}
			s = got
		}
	}
}

// Promise 8.3: from any space that may be, too.
func TestStaysFromAny(t *testing.T) {
	chance := rand.New(rand.NewSource(83))
	for range 20000 {
		s := randomSpace(chance)
		if !May(s) {
			continue
		}
		r, now := randomRequest(chance, s), randomNow(chance, s)
		if got, _ := Do(s, now, r); !May(got) {
			t.Fatalf("%v\nat %d: %v\n%v", s, now, r, got)
		}
	}
}

// Promise 8.3 (and T1): the same requests make the same space and are told the same, also where each comes twice.
func TestSameRequests(t *testing.T) {
	chance := rand.New(rand.NewSource(84))
	for range 30 {
		a := New(15, 15)
		b := copySpace(a)
		for range 300 {
			r, now := randomRequest(chance, a), randomNow(chance, a)
			var toldA, toldB []api.Reply
			a, toldA = Do(a, now, r)
			b, toldB = Do(copySpace(b), now, copyRequest(r))
			if !Same(a, b) || !sameParts(a, b) || !sameTold(toldA, toldB) {
				t.Fatalf("at %d: %v: %v, %v", now, r, a, b)
			}
			if len(toldB) == 0 || toldB[0].Kind == plainROld {
				continue
			}
			again, toldAgain := Do(b, b.Now, r)
			if !sameParts(again, b) || !sameTold(toldAgain, b.Last[r.Client:r.Client+1]) {
				t.Fatalf("again, at %d: %v: told %v, %v, want %v", b.Now, r, toldAgain, again, b)
			}
		}
	}
}

// Rule 2: what is handed in is not changed.
func TestDoChangesNothingHandedIn(t *testing.T) {
	chance := rand.New(rand.NewSource(85))
	for range 20000 {
		s := randomSpace(chance)
		r, now := randomRequest(chance, s), randomNow(chance, s)
		s0, r0 := copySpace(s), copyRequest(r)
		Do(s, now, r)
		if !sameParts(s, s0) || !reflect.DeepEqual(r, r0) {
			t.Fatalf("at %d: %v, %v", now, r0, s0)
		}
	}
}

// fieldLists are all lists of fields of a space.
func fieldLists(s api.Space) [][]api.Field {
	var l [][]api.Field
	for _, i := range s.Items {
		l = append(l, i.T)
	}
	for _, w := range s.Waiters {
		l = append(l, w.P)
	}
	for _, reply := range s.Last {
		l = append(l, reply.T)
	}
	return l
}

// apart tells whether no two lists share a field, nor room behind their ends.
func apart(l [][]api.Field) bool {
	for mark, one := range l {
		one = one[:cap(one)]
		for at := range one {
			one[at] = api.Field{Kind: mark + 100}
		}
	}
	for mark, one := range l {
		for _, f := range one[:cap(one)] {
			if f.Kind != mark+100 {
				return false
			}
		}
	}
	return true
}

// Rule 2: what is answered is the caller's own: it shares nothing with what was handed in, and none of its lists with another.
func TestAnswersAreTheCallersOwn(t *testing.T) {
	chance := rand.New(rand.NewSource(86))
	for range 20000 {
		s := randomSpace(chance)
		r, now := randomRequest(chance, s), randomNow(chance, s)
		s, r = copySpace(s), copyRequest(r) // the tests' own lists may be shared
		got, told := Do(s, now, r)
		items, waiters := slices.Clone(s.Items), slices.Clone(s.Waiters)
		for at := range got.Items[:cap(got.Items)] {
			got.Items[:cap(got.Items)][at].Owner = 77
		}
		for at := range got.Waiters[:cap(got.Waiters)] {
			got.Waiters[:cap(got.Waiters)][at].Client = 77
		}
		if !reflect.DeepEqual(s.Items, items) || !reflect.DeepEqual(s.Waiters, waiters) {
			t.Fatalf("items or waiters of what was handed in: at %d: %v", now, r)
		}
		all := slices.Concat(fieldLists(s), fieldLists(got), [][]api.Field{r.P, r.T})
		for _, reply := range told {
			all = append(all, reply.T)
		}
		if !apart(all) {
			t.Fatalf("lists: at %d: %v", now, r)
		}
	}
}

// Promise 8.1: new spaces share nothing with each other.
func TestNewIsNew(t *testing.T) {
	a := New(15, 15)
	a.Items, a.Last[2].Seq = append(a.Items, api.Item{Owner: 1}), 9
	if b := New(15, 15); len(b.Items) != 0 || b.Last[2].Seq != 0 {
		t.Errorf("%v", b)
	}
}
