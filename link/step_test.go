package link

import (
	"math/rand"
	"reflect"
	"slices"
	"testing"

	"chirograph/api"
	"chirograph/entry"
	"chirograph/sha"
	"chirograph/space"
	"chirograph/state"
)

// knownStep is an entry's bytes, what is told by it, and the link that another program made of it and of the bytes behind it.
type knownStep struct {
	b    []byte
	told []api.Reply
	want string
}

func knownBare() []knownStep {
	seven, b := number(7), text("b")
	last := at(15, ask(3, 1, api.Rdp, anyOne), nop(0, 1))
	return []knownStep{
		{at(0, nop(0, 1)), []api.Reply{told(0, 1, api.RDone)}, "f9036d833276dd8983235e4b96ad803ab3b9a8783db1331cbe262fe2b50667e9"},
		{at(5, out(0, 2, 10, seven), ask(1, 1, api.In, b)), []api.Reply{told(0, 2, api.RDone), told(1, 1, api.RWaits)}, "1577231cd6c6940fce859ac5d252bcab138d6727b4521d20ce83b8e9bc74a31d"},
		{at(5, out(2, 1, 0, b)), []api.Reply{told(2, 1, api.RDone), late(1, 1, b)}, "8a1d5a3235ce8e7143b9a545347fa05118dd570c512ea474152ed3befb6c979f"},
		{last, []api.Reply{told(3, 1, api.RNone), told(0, 1, api.ROld)}, "964a19e896709676f681044e787925f9f4283e13fdf3c941f95a58b9a40c3df5"},
		{last, []api.Reply{told(3, 1, api.RNone), told(0, 1, api.ROld)}, "f718d0969cd67e3841edd4a737a3b5cf8517b4b3f740359c1f1c5d94a7301c31"},
	}
}

func knownStarted() []knownStep {
	x := text("x")
	return []knownStep{
		{at(12, out(2, 1, 0, x)), []api.Reply{told(2, 1, api.RDone), late(1, 4, x)}, "37067c91fde466b2913af358c5e45ab43135eb04ab33744159425f4b1bbb3014"},
		{
			at(13, out(3, 1, 0, x), ask(1, 5, api.Rdp, anyOne), ask(3, 2, api.Rdp, anyOne)),
			[]api.Reply{told(3, 1, api.RDenied), told(1, 5, api.RDenied), told(3, 2, api.RTuple, text(""))},
			"ec3874b31ed5adae9bc6dc9be4911916b740b0c4ec173c50ec343aa169dffb8a",
		},
	}
}

// Promise 12.2: Step by Step, and Run of as many.
func TestKnown(t *testing.T) {
	for _, k := range []struct {
		name  string
		g     api.Genesis
		first string
		steps []knownStep
	}{
		{"without Start", bare(0), "e49b7708322a5d6f57c00d9cd9b0a47feea4a866f00279f1bf97c0b177ac3861", knownBare()},
		{"from a Start", started(1), "fb86616a898c16469a49945446cf4458b9e0867052bc1cdee92be3a5b5092523", knownStarted()},
	} {
		h, s := run(t, k.g)
		if sha.Hex(h) != k.first {
			t.Errorf("%s: first link: %x", k.name, h)
		}
		var l [][]byte
		for n, want := range k.steps {
			var replies []api.Reply
			h, s, replies = step(t, h, s, want.b)
			if sha.Hex(h) != want.want || !sameTold(replies, want.told) {
				t.Errorf("%s: Step %d: %x, told %v", k.name, n, h, replies)
			}
			l = append(l, want.b)
			if all, behind := run(t, k.g, l...); sha.Hex(all) != want.want || !space.Same(behind, s) {
				t.Errorf("%s: Run of %d: %x, %v", k.name, n, all, behind)
			}
		}
	}
}

// Promise 12.2: the space behind a step, written out.
func TestStepSpace(t *testing.T) {
	s := busy()
	_, behind, replies := step(t, hashOf(3), s, at(12, out(2, 1, 5, text("x")), out(2, 2, 5, number(8)), nop(0, 7)))
	want := space.New(13, 7)
	want.Now = 12
	want.Items = []api.Item{{T: list(text(""))}, {Owner: 2, Until: 17, T: list(number(8))}}
	want.Last = [4]api.Reply{told(0, 7, api.RDone), late(1, 4, text("x")), told(2, 2, api.RDone), {Client: 3}}
	if !space.Same(behind, want) {
		t.Errorf("%v", behind)
	}
	if !sameTold(replies, []api.Reply{told(2, 1, api.RDone), late(1, 4, text("x")), told(2, 2, api.RDone), told(0, 7, api.RDone)}) {
		t.Errorf("told %v", replies)
	}
}

// Promise 12.2: the link is made of just what the chapter names: the digest is that of the space behind, not ahead.
func TestStepMadeOf(t *testing.T) {
	chance := rand.New(rand.NewSource(125))
	for range 500 {
		_, s := played(chance, randomGenesis(chance), chance.Intn(4))
		b, ahead := randomEntry(chance, s), randomHash(chance)
		h, behind, _ := step(t, ahead, s, b)
		digest, fault := state.Digest(behind)
		if fault != api.OK || h != Next(ahead, entry.Sum(b), digest) {
			t.Fatalf("%v\n%x: %x, error %d", s, b, h, fault)
		}
	}
}

// Promise 12.2: any hash may be ahead; it changes the link alone.
func TestStepOfAnyAhead(t *testing.T) {
	b := at(9, nop(0, 7))
	_, want, wantTold := step(t, api.Hash{}, busy(), b)
	seen := map[api.Hash]int{}
	for n := range 256 {
		for _, ahead := range []api.Hash{hashOf(byte(n)), {31: byte(n)}} {
			h, s, replies := step(t, ahead, busy(), b)
			if h != plainNext(ahead, plainSum(b), plainDigest(want)) || !space.Same(s, want) || !sameTold(replies, wantTold) {
				t.Errorf("%x: %x, %v, told %v", ahead, h, s, replies)
			}
			seen[h]++
		}
	}
	if len(seen) != 512 {
		t.Errorf("%d links", len(seen))
	}
}

// noEntries are bytes that no entry has.
func noEntries() map[string][]byte {
	right := at(9, nop(0, 7), out(2, 1, 0, number(1)))
	l := map[string][]byte{
		"nil":                nil,
		"empty":              {},
		"no requests":        append(slices.Clone(right[:8]), 0),
		"nine requests":      append(append(slices.Clone(right[:8]), 9), slices.Repeat(at(9, nop(0, 7))[9:], 9)...),
		"a byte behind":      append(slices.Clone(right), 0),
		"twice":              slices.Repeat(right, 2),
		"a byte ahead":       append([]byte{0}, right...),
		"MaxTime + 1":        append([]byte{0, 0, 1, 0, 0, 0, 0, 1}, right[8:]...),
		"a time below 0":     append(slices.Repeat([]byte{255}, 8), right[8:]...),
		"a space's bytes":    bytesOf(busy()),
		"many noughts":       make([]byte, 20000),
		"very many 255s":     slices.Repeat([]byte{255}, 1<<20),
		"words":              []byte("nothing"),
		"a request's client": slices.Clone(right),
		"a request's kind":   slices.Clone(right),
	}
	l["a request's client"][13], l["a request's kind"][18] = 4, 0
	for n := range right {
		l["cut at "+string(rune('A'+n))] = right[:n]
	}
	return l
}

// wrongSpaces are such as may not be.
func wrongSpaces() map[string]api.Space {
	l := map[string]api.Space{"nothing": {}}
	for name, turn := range map[string]func(s *api.Space){
		"Now -1":        func(s *api.Space) { s.Now = -1 },
		"Now too late":  func(s *api.Space) { s.Now, s.Items = 1<<40+1, nil },
		"what is over":  func(s *api.Space) { s.Now = 12 },
		"Read":          func(s *api.Space) { s.Read = 16 },
		"Write":         func(s *api.Space) { s.Write = -1 },
		"65 items":      func(s *api.Space) { s.Items = slices.Repeat(s.Items[1:], 65) },
		"25 of one":     func(s *api.Space) { s.Items = slices.Repeat(s.Items[1:], 25) },
		"an owner":      func(s *api.Space) { s.Items[0].Owner = 4 },
		"17 waiters":    func(s *api.Space) { s.Waiters = slices.Repeat(s.Waiters, 17) },
		"a waiter":      func(s *api.Space) { s.Waiters[0].P = nil },
		"a last Client": func(s *api.Space) { s.Last[2].Client = 3 },
		"a last Kind":   func(s *api.Space) { s.Last[1].Kind = api.ROld },
	} {
		s := busy()
		turn(&s)
		l[name] = s
	}
	return l
}

// Promise 12.2: bytes that are no entry's, told ahead of a space that may not be.
func TestStepBad(t *testing.T) {
	for name, b := range noEntries() {
		refused(t, name, busy(), b, api.ErrBad)
		refused(t, name, space.New(15, 15), b, api.ErrBad)
		for wrong, s := range wrongSpaces() {
			refused(t, name+", "+wrong, s, b, api.ErrBad)
		}
	}
}

// Promise 12.2: a space that may not be, told ahead of an entry's time.
func TestStepArg(t *testing.T) {
	for name, s := range wrongSpaces() {
		for _, now := range []int{0, 8, 9, 12, 1 << 40} {
			refused(t, name, s, at(now, nop(0, 7)), api.ErrArg)
		}
	}
}

// Promise 12.2: an entry's time is the space's, or later.
func TestStepLink(t *testing.T) {
	for _, now := range []int{0, 1, 9, 255, 256, 1 << 32, 1<<40 - 1, 1 << 40} {
		s := space.New(15, 15)
		s.Now = now
		for _, then := range []int{0, 1, now - 256, now - 1, now, now + 1, now + 256, 1 << 40} {
			if then < 0 || then > 1<<40 {
				continue
			}
			b := at(then, nop(0, 7))
			if then < now {
				refused(t, "a time below", s, b, api.ErrLink)
				continue
			}
			if _, behind, replies := step(t, hashOf(2), s, b); behind.Now != then || len(replies) != 1 {
				t.Errorf("%d, then %d: %v, told %v", now, then, behind, replies)
			}
			stepAsPlainly(t, hashOf(2), s, b)
		}
	}
}

// turn changes a little of a space or of an entry's bytes: mostly it may not be then.
func turn(chance *rand.Rand, s api.Space, b []byte) (api.Space, []byte) {
	b = slices.Clone(b)
	switch chance.Intn(5) {
	case 0:
		return s, b[:chance.Intn(len(b)+1)]
	case 1:
		return s, append(b, byte(chance.Intn(2)))
	case 2:
		s.Now, s.Items = s.Now+1+chance.Intn(8), nil
	case 3:
		s.Read += 16 * chance.Intn(2)
	default:
		if len(b) > 0 {
			b[chance.Intn(len(b))] ^= 1 << chance.Intn(8)
		}
	}
	return s, b
}

// Promise 12.2: spaces and entries of all sorts, as the chapter says.
func TestStepAsPlainly(t *testing.T) {
	chance := rand.New(rand.NewSource(126))
	faults := map[int]int{}
	for range 6000 {
		_, s := played(chance, randomGenesis(chance), chance.Intn(6))
		b := randomEntry(chance, s)
		for range chance.Intn(3) {
			s, b = turn(chance, s, b)
		}
		faults[stepAsPlainly(t, randomHash(chance), s, b)]++
	}
	if faults[api.OK] < 1500 || faults[api.ErrBad] < 500 || faults[api.ErrArg] < 100 || faults[api.ErrLink] < 200 {
		t.Errorf("a test that asks too little: %v", faults)
	}
}

// Promise 12.2 (and rule 2): what is handed in is not changed, also behind its end.
func TestStepChangesNothingHandedIn(t *testing.T) {
	chance := rand.New(rand.NewSource(127))
	for n := range 1000 {
		_, s := played(chance, randomGenesis(chance), chance.Intn(6))
		b := append(randomEntry(chance, s), 77)
		if n%4 == 0 {
			s.Now++ // mostly an error then
		}
		s.Items, s.Waiters = append(s.Items, api.Item{Owner: 77}), append(s.Waiters, api.Waiter{Seq: 77})
		s0, b0 := copySpace(s), slices.Clone(b)
		in := s
		in.Items, in.Waiters = s.Items[:len(s.Items)-1], s.Waiters[:len(s.Waiters)-1]
		Step(hashOf(0), in, b[:len(b)-1])
		if !reflect.DeepEqual(copySpace(s), s0) || !slices.Equal(b, b0) {
			t.Fatalf("%v, %x: %v, %x", s0, b0, s, b)
		}
	}
}

// spoil writes over all that a space and replies have, and over the room behind.
func spoil(s api.Space, replies []api.Reply) {
	for _, i := range s.Items {
		clear(i.T[:cap(i.T)])
	}
	for _, w := range s.Waiters {
		clear(w.P[:cap(w.P)])
	}
	for _, reply := range slices.Concat(s.Last[:], replies) {
		clear(reply.T[:cap(reply.T)])
	}
	clear(s.Items[:cap(s.Items)])
	clear(s.Waiters[:cap(s.Waiters)])
	clear(replies[:cap(replies)])
}

// Promise 12.2 (and rule 2): what is answered is the caller's own: it shares nothing with what was handed in, nor the replies with the space.
func TestStepIsTheCallersOwn(t *testing.T) {
	chance := rand.New(rand.NewSource(128))
	for range 1000 {
		_, s := played(chance, randomGenesis(chance), chance.Intn(6))
		b := randomEntry(chance, s)
		s0, b0 := copySpace(s), slices.Clone(b)
		h, behind, replies := step(t, hashOf(0), s, b)
		want, wantTold := copySpace(behind), slices.Clone(replies)
		for n := range wantTold {
			wantTold[n].T = slices.Clone(wantTold[n].T)
		}
		spoil(api.Space{}, replies)
		if !space.Same(behind, want) {
			t.Fatalf("%v, %x: the replies are the space's", s0, b)
		}
		spoil(behind, nil)
		if !space.Same(s, s0) || !slices.Equal(b, b0) {
			t.Fatalf("%v, %x: %v, %x", s0, b0, s, b)
		}
		again, behind, replies := step(t, hashOf(0), s, b)
		if again != h || !space.Same(behind, want) || !sameTold(replies, wantTold) {
			t.Fatalf("%v, %x: again: %x, %v, told %v", s0, b, again, behind, replies)
		}
	}
}
