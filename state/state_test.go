package state

import (
	"bytes"
	"math"
	"math/rand"
	"testing"

	"chirograph/api"
	"chirograph/sha"
	"chirograph/space"
)

const (
	noTime  = "\x00\x00\x00\x00\x00\x00\x00\x00"
	noLast  = "\x00\x00\x00\x00\x00\x00\x00\x00\x00\x00"
	noLasts = noLast + noLast + noLast + noLast
)

// wholeBytes are those of whole, part for part.
func wholeBytes() string {
	return "\x00\x00\x00\x00\x00\x00\x00\x64\x0d\x07" +
		"\x03" +
		"\x00" + noTime + "\x00\x00\x00\x10\x02\x01\x00\x00\x00\x00\x00\x00\x00\x01\x02\x00\x00\x00\x01a" +
		"\x03\x00\x00\x00\x00\x00\x00\x00\x65\x00\x00\x00\x06\x01\x02\x00\x00\x00\x00" +
		"\x01\x00\x00\x02\x00\x00\x00\x00\x00\x00\x00\x00\x0a\x01\x01\xff\xff\xff\xff\xff\xff\xff\xfe" +
		"\x02" +
		"\x02\x00\x00\x00\x05\x01\x00\x00\x00\x0b\x02\x04\x01\x00\x00\x00\x00\x00\x00\x00\x09" +
		"\x00\x40\x00\x00\x00\x00\x00\x00\x00\x07\x01\x02\x00\x00\x00\x01z" +
		"\x40\x00\x00\x00\x02\x01\x00\x00\x00\x0a\x01\x01\x00\x00\x00\x00\x00\x00\x00\x04" +
		"\x00\x00\x00\x01\x06\x00\x00\x00\x00\x00" +
		"\x01\x02\x03\x04\x02\x00\x00\x00\x00\x07\x01\x02\x00\x00\x00\x01t" +
		noLast
}

// Promise 9.1: the bytes of spaces, written out.
func TestPutBytes(t *testing.T) {
	late := space.New(2, 4)
	late.Now = 0x0102030405
	for c := range late.Last {
		late.Last[c].Seq, late.Last[c].Kind = c+1, []int{api.RDone, api.RNone, api.RWaits, api.RFull}[c]
	}
	latest := space.New(0, 0)
	latest.Now = 1 << 40
	for _, k := range []struct {
		name string
		s    api.Space
		want string
	}{
		{"a new one", space.New(15, 15), noTime + "\x0f\x0f\x00\x00" + noLasts},
		{"one that nobody may use", space.New(0, 0), noTime + "\x00\x00\x00\x00" + noLasts},
		{"the latest", latest, "\x00\x00\x01\x00\x00\x00\x00\x00\x00\x00\x00\x00" + noLasts},
		{"with replies", late, "\x00\x00\x00\x01\x02\x03\x04\x05\x02\x04\x00\x00" +
			"\x00\x00\x00\x01\x01\x00\x00\x00\x00\x00" +
			"\x00\x00\x00\x02\x03\x00\x00\x00\x00\x00" +
			"\x00\x00\x00\x03\x04\x00\x00\x00\x00\x00" +
			"\x00\x00\x00\x04\x05\x00\x00\x00\x00\x00"},
		{"with something in each part", whole(), wholeBytes()},
	} {
		if b := put(t, k.s); string(b) != k.want {
			t.Errorf("%s: Put: %x, want %x", k.name, b, k.want)
		}
		if s := get(t, []byte(k.want)); !sameParts(s, k.s) {
			t.Errorf("%s: Get: %v", k.name, s)
		}
	}
	if n := len(put(t, space.New(15, 15))); n != 8+1+1+1+1+4*10 {
		t.Errorf("the chapter's example: %d bytes", n)
	}
}

// Promise 9.1: a space of all that one may have.
func TestPutOfTheFullest(t *testing.T) {
	s := fullest()
	b := put(t, s)
	if want := 12 + 64*(13+271) + 16*(10+271) + 4*(10+271); len(b) != want {
		t.Errorf("%d bytes, want %d", len(b), want)
	}
	if !bytes.Equal(b, plainPut(s)) || !sameParts(get(t, b), s) {
		t.Error("its bytes, or what they give")
	}
	s.Items = append(s.Items, api.Item{T: list(number(1))})
	if _, e := Put(s); e != api.ErrArg {
		t.Errorf("one item more: error %d", e)
	}
}

// oddTurns make of a whole space one that may not be.
func oddTurns() map[string]func(s *api.Space) {
	return map[string]func(s *api.Space){
		"Now -1":                func(s *api.Space) { s.Now = -1 },
		"Now at an Until":       func(s *api.Space) { s.Now = 0x65 },
		"Now 2^40 + 1":          func(s *api.Space) { s.Now = 1<<40 + 1 },
		"the lowest Now":        func(s *api.Space) { s.Now = math.MinInt },
		"Read -1":               func(s *api.Space) { s.Read = -1 },
		"Read 16":               func(s *api.Space) { s.Read = 16 },
		"Read by 256":           func(s *api.Space) { s.Read += 256 },
		"Write -1":              func(s *api.Space) { s.Write = -1 },
		"Write 16":              func(s *api.Space) { s.Write = 16 },
		"Write by 256":          func(s *api.Space) { s.Write += 256 },
		"Owner 4":               func(s *api.Space) { s.Items[0].Owner = 4 },
		"Owner by 256":          func(s *api.Space) { s.Items[0].Owner = 256 },
		"Until above the most":  func(s *api.Space) { s.Items[2].Until++ },
		"Until -1":              func(s *api.Space) { s.Items[0].Until = -1 },
		"an item without T":     func(s *api.Space) { s.Items[1].T = nil },
		"an item of a template": func(s *api.Space) { s.Items[1].T = list(anyText) },
		"an item of no kind":    func(s *api.Space) { s.Items[1].T[0].Kind = 0 },
		"a text of 41": func(s *api.Space) {
			s.Items[1].T[0].S = "12345678901234567890123456789012345678901"
		},
		"25 of one":            func(s *api.Space) { s.Items = manyItems(25, 1) },
		"65 items":             func(s *api.Space) { s.Items = manyItems(65, 4) },
		"300 items":            func(s *api.Space) { s.Items = manyItems(300, 4) },
		"17 waiters":           func(s *api.Space) { s.Waiters = make([]api.Waiter, 17) },
		"a waiter's Client 4":  func(s *api.Space) { s.Waiters[0].Client = 4 },
		"a waiter's Client -1": func(s *api.Space) { s.Waiters[0].Client = -1 },
		"a waiter's Seq 0":     func(s *api.Space) { s.Waiters[0].Seq = 0 },
		"a waiter's Seq above": func(s *api.Space) { s.Waiters[1].Seq++ },
		"a waiter's by 2^32":   func(s *api.Space) { s.Waiters[1].Seq += 1 << 32 },
		"a waiter without P":   func(s *api.Space) { s.Waiters[1].P = list() },
		"another's Last":       func(s *api.Space) { s.Last[3].Client = 0 },
		"a Last's Seq -1":      func(s *api.Space) { s.Last[1].Seq = -1 },
		"a Last's Seq above":   func(s *api.Space) { s.Last[0].Seq++ },
		"a Last's Seq by 2^32": func(s *api.Space) { s.Last[1].Seq += 1 << 32 },
		"a Last of ROld":       func(s *api.Space) { s.Last[1].Kind = api.ROld },
		"a Last of no Kind":    func(s *api.Space) { s.Last[1].Kind = 0 },
		"a Last's Kind by 256": func(s *api.Space) { s.Last[1].Kind += 256 },
		"a tuple too many":     func(s *api.Space) { s.Last[1].T = list(number(1)) },
		"a tuple too few":      func(s *api.Space) { s.Last[0].T = nil },
		"late without a tuple": func(s *api.Space) { s.Last[1].Late = true },
		"late without a Seq":   func(s *api.Space) { s.Last[3].Late = true },
		"a Kind without a Seq": func(s *api.Space) { s.Last[3].Kind = api.RDone },
	}
}

func manyItems(many, owners int) []api.Item {
	var l []api.Item
	for n := range many {
		l = append(l, api.Item{Owner: n % owners, T: list(number(int64(n)))})
	}
	return l
}

// Promise 9.1, 9.2: a space that may not be has no bytes and no digest.
func TestPutWrong(t *testing.T) {
	for name, turn := range oddTurns() {
		s := whole()
		turn(&s)
		if b, e := Put(s); e != api.ErrArg || len(b) != 0 {
			t.Errorf("%s: Put: %x, error %d", name, b, e)
		}
		if h, e := Digest(s); e != api.ErrArg || h != (api.Hash{}) {
			t.Errorf("%s: Digest: %x, error %d", name, h, e)
		}
	}
	if b, e := Put(api.Space{}); e != api.ErrArg || len(b) != 0 {
		t.Errorf("nothing: Put: %x, error %d", b, e)
	}
	if h, e := Digest(api.Space{}); e != api.ErrArg || h != (api.Hash{}) {
		t.Errorf("nothing: Digest: %x, error %d", h, e)
	}
}

// Promise 9.2: digests that another program made.
func TestOfBytesKnown(t *testing.T) {
	for b, want := range map[string]string{
		"":                                    "d46f8fc02ea3160456244ac08cacfca2fc8c0f3bda18edf0b5aa2633043171f9",
		"abc":                                 "fd00cdc266b9d02720e14b0ce6d5802c7cb21fedf52243bf136a5fd9de3b3128",
		noTime + "\x0f\x0f\x00\x00" + noLasts: "c2e68fdf53f678a70716eecea1b77604f27659a6d37ca228fb6dcbb4d91e93aa",
		wholeBytes():                          "3e8cee90768d69a8f6c15bf013da4d799365137cd9f922d1f367f18c9e395735",
	} {
		if got := sha.Hex(OfBytes([]byte(b))); got != want {
			t.Errorf("OfBytes of %x: %s, want %s", b, got, want)
		}
	}
	if got := sha.Hex(digest(t, whole())); got != "3e8cee90768d69a8f6c15bf013da4d799365137cd9f922d1f367f18c9e395735" {
		t.Errorf("Digest of the whole one: %s", got)
	}
	if got := sha.Hex(digest(t, space.New(15, 15))); got != "c2e68fdf53f678a70716eecea1b77604f27659a6d37ca228fb6dcbb4d91e93aa" {
		t.Errorf("Digest of a new one: %s", got)
	}
}

// Promise 9.2: of bytes of every length, whatever they are.
func TestOfBytes(t *testing.T) {
	if OfBytes(nil) != plainOfBytes(nil) || OfBytes([]byte{}) != plainOfBytes(nil) {
		t.Error("of no bytes")
	}
	chance := rand.New(rand.NewSource(91))
	b := make([]byte, 300)
	chance.Read(b)
	for n := range b {
		if OfBytes(b[:n]) != plainOfBytes(b[:n]) {
			t.Errorf("of %d bytes", n)
		}
	}
	long := bytes.Repeat([]byte{7}, 1<<20)
	if OfBytes(long) != plainOfBytes(long) {
		t.Error("of a million bytes")
	}
}

// Promise 9.2 (and rule 2): what is handed in stays as it is, also behind its end.
func TestOfBytesChangesNothing(t *testing.T) {
	b := []byte("a space's bytes, and more of them")
	want := string(b)
	OfBytes(b[:5])
	if string(b) != want {
		t.Errorf("%q", b)
	}
}

// Promise 9.2: a space's digest is that of its bytes.
func TestDigest(t *testing.T) {
	chance := rand.New(rand.NewSource(92))
	for n := range 500 {
		s := randomSpace(chance, n%65)
		if h := digest(t, s); h != plainOfBytes(plainPut(s)) || h != OfBytes(put(t, s)) {
			t.Fatalf("%v: %x", s, h)
		}
	}
}

// partTurns change a whole space in one part, so that it is another one that may be.
func partTurns() map[string]func(s *api.Space) {
	return map[string]func(s *api.Space){
		"Now":                 func(s *api.Space) { s.Now-- },
		"Read":                func(s *api.Space) { s.Read = 12 },
		"Write":               func(s *api.Space) { s.Write = 6 },
		"Read and Write":      func(s *api.Space) { s.Read, s.Write = s.Write, s.Read },
		"an Owner":            func(s *api.Space) { s.Items[1].Owner = 2 },
		"an Until":            func(s *api.Space) { s.Items[1].Until++ },
		"no Until":            func(s *api.Space) { s.Items[1].Until = 0 },
		"T's number":          func(s *api.Space) { s.Items[0].T[0].N++ },
		"T's text":            func(s *api.Space) { s.Items[1].T[0].S = "c" },
		"T's kind":            func(s *api.Space) { s.Items[1].T[0] = number(0) },
		"a field more":        func(s *api.Space) { s.Items[2].T = append(s.Items[2].T, number(0)) },
		"a field less":        func(s *api.Space) { s.Items[0].T = s.Items[0].T[1:] },
		"an item more":        func(s *api.Space) { s.Items = append(s.Items, s.Items[0]) },
		"an item less":        func(s *api.Space) { s.Items = s.Items[:2] },
		"no items":            func(s *api.Space) { s.Items = nil },
		"items turned":        func(s *api.Space) { s.Items[0], s.Items[1] = s.Items[1], s.Items[0] },
		"a waiter's Client":   func(s *api.Space) { s.Waiters[0].Client = 3 },
		"a waiter's Seq":      func(s *api.Space) { s.Waiters[1].Seq-- },
		"a waiter's Take":     func(s *api.Space) { s.Waiters[1].Take = true },
		"a waiter takes none": func(s *api.Space) { s.Waiters[0].Take = false },
		"a waiter's P":        func(s *api.Space) { s.Waiters[1].P[0] = anyText },
		"a waiter's other P":  func(s *api.Space) { s.Waiters[1].P[0] = anyOne },
		"a waiter less":       func(s *api.Space) { s.Waiters = s.Waiters[1:] },
		"no waiters":          func(s *api.Space) { s.Waiters = nil },
		"waiters turned":      func(s *api.Space) { s.Waiters[0], s.Waiters[1] = s.Waiters[1], s.Waiters[0] },
		"Last's Seq":          func(s *api.Space) { s.Last[0].Seq-- },
		"Last's Kind":         func(s *api.Space) { s.Last[1].Kind = api.RFull },
		"Last's T":            func(s *api.Space) { s.Last[0].T[0].N++ },
		"Last not late":       func(s *api.Space) { s.Last[0].Late = false },
		"Last late":           func(s *api.Space) { s.Last[2].Late = true },
		"the fourth's Last":   func(s *api.Space) { s.Last[3].Seq, s.Last[3].Kind = 1, api.RDone },
		"no Last": func(s *api.Space) {
			s.Last[1] = api.Reply{Client: 1}
		},
		"Lasts turned": func(s *api.Space) {
			s.Last[0], s.Last[1] = s.Last[1], s.Last[0]
			s.Last[0].Client, s.Last[1].Client = 0, 1
		},
	}
}

// Promise 9.3: another space has another digest.
func TestAnotherSpace(t *testing.T) {
	seen := map[api.Hash]string{digest(t, whole()): "the whole one"}
	for name, turn := range partTurns() {
		s := whole()
		turn(&s)
		h := digest(t, s)
		if other, ok := seen[h]; ok {
			t.Errorf("one digest of two: %s, %s", name, other)
		}
		seen[h] = name
		if !sameParts(get(t, put(t, s)), s) {
			t.Errorf("it does not come back: %s", name)
		}
	}
}

// Promise 9.3 (and rule 5): the same space has one digest, however its lists lie, and nil and empty lists are the same.
func TestOneDigest(t *testing.T) {
	chance := rand.New(rand.NewSource(93))
	for range 300 {
		s := randomSpace(chance, 10)
		same := copySpace(s)
		same.Items = append(make([]api.Item, 0, 100), same.Items...)
		if !space.Same(s, same) || digest(t, s) != digest(t, same) || digest(t, s) != digest(t, get(t, put(t, s))) {
			t.Fatalf("%v", s)
		}
	}
	bare, empty := space.New(3, 5), space.New(3, 5)
	empty.Items, empty.Waiters = []api.Item{}, []api.Waiter{}
	for c := range empty.Last {
		empty.Last[c].T = list()
	}
	if digest(t, bare) != digest(t, empty) || !bytes.Equal(put(t, bare), put(t, empty)) {
		t.Error("nil and empty")
	}
}

// Promise 9.3: two spaces have one digest just where they are the same.
func TestOneDigestOfPlayedSpaces(t *testing.T) {
	chance := rand.New(rand.NewSource(94))
	seen := map[api.Hash]api.Space{}
	for range 2000 {
		s := playedSpace(chance)
		h := digest(t, s)
		if other, ok := seen[h]; ok && !sameParts(other, s) {
			t.Fatalf("%v and %v: %x", other, s, h)
		}
		seen[h] = s
		if back := get(t, put(t, s)); !sameParts(back, s) || digest(t, back) != h {
			t.Fatalf("%v: %v", s, back)
		}
	}
}

// Promise 9.1, 9.2 (and rule 2): what is asked is not changed.
func TestAskedIsNotChanged(t *testing.T) {
	chance := rand.New(rand.NewSource(95))
	for n := range 300 {
		s := randomSpace(chance, n%65)
		if n%3 == 0 {
			s.Read = 99
		}
		was := copySpace(s)
		Put(s)
		Digest(s)
		if !sameParts(s, was) {
			t.Fatalf("%v", was)
		}
	}
}
