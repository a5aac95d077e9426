package state

import (
	"bytes"
	"math/rand"
	"slices"
	"strings"
	"testing"

	"chirograph/api"
	"chirograph/space"
)

const (
	ahead = noTime + "\x0f\x0f"                                        // of a new space
	one   = "\x00\x00\x00\x0a\x01\x01\x00\x00\x00\x00\x00\x00\x00\x07" // a tuple's Text
	open  = "\x00\x00\x00\x02\x01\x05"                                 // a template's
	waits = "\x00\x00\x00\x00\x01\x00"                                 // a waiter ahead of its P
	told  = "\x00\x00\x00\x01\x02"                                     // a last reply with a tuple, ahead of Late
	three = noLast + noLast + noLast
)

// Promise 9.1: bytes that no Put makes, by the parts of the space.
func TestGetWrong(t *testing.T) {
	item := "\x00" + noTime + one
	for name, b := range map[string]string{
		"nothing":                      "",
		"a byte":                       "\x00",
		"Now alone":                    noTime,
		"no counts":                    ahead,
		"no waiters' count":            ahead + "\x00",
		"no Lasts":                     ahead + "\x00\x00",
		"three Lasts":                  ahead + "\x00\x00" + three,
		"three Lasts and a half":       ahead + "\x00\x00" + three + noLast[:9],
		"five Lasts":                   ahead + "\x00\x00" + noLasts + noLast,
		"a byte behind":                ahead + "\x00\x00" + noLasts + "\x00",
		"a byte ahead":                 "\x00" + ahead + "\x00\x00" + noLasts,
		"Now 2^40 + 1":                 "\x00\x00\x01\x00\x00\x00\x00\x01\x0f\x0f\x00\x00" + noLasts,
		"Now 2^63":                     "\x80\x00\x00\x00\x00\x00\x00\x00\x0f\x0f\x00\x00" + noLasts,
		"Now 2^64 - 1":                 "\xff\xff\xff\xff\xff\xff\xff\xff\x0f\x0f\x00\x00" + noLasts,
		"Now of four bytes":            "\x00\x00\x00\x00\x0f\x0f\x00\x00" + noLasts,
		"Read 16":                      noTime + "\x10\x0f\x00\x00" + noLasts,
		"Read 255":                     noTime + "\xff\x0f\x00\x00" + noLasts,
		"Write 16":                     noTime + "\x0f\x10\x00\x00" + noLasts,
		"Write 255":                    noTime + "\x0f\xff\x00\x00" + noLasts,
		"an item less than told":       ahead + "\x02" + item + "\x00" + noLasts,
		"an item more than told":       ahead + "\x01" + item + item + "\x00" + noLasts,
		"items' count of two bytes":    ahead + "\x00\x01" + item + "\x00" + noLasts,
		"Owner 4":                      ahead + "\x01\x04" + noTime + one + "\x00" + noLasts,
		"Owner 255":                    ahead + "\x01\xff" + noTime + one + "\x00" + noLasts,
		"Until 2^41 + 1":               ahead + "\x01\x00\x00\x00\x02\x00\x00\x00\x00\x01" + one + "\x00" + noLasts,
		"Until 2^63":                   ahead + "\x01\x00\x80\x00\x00\x00\x00\x00\x00\x00" + one + "\x00" + noLasts,
		"Until that is Now":            "\x00\x00\x00\x00\x00\x00\x00\x05\x0f\x0f\x01\x00\x00\x00\x00\x00\x00\x00\x00\x05" + one + "\x00" + noLasts,
		"an item without T":            ahead + "\x01\x00" + noTime + "\x00\x00\x00\x00\x00" + noLasts,
		"an item of no fields":         ahead + "\x01\x00" + noTime + "\x00\x00\x00\x01\x00\x00" + noLasts,
		"an item of a template":        ahead + "\x01\x00" + noTime + open + "\x00" + noLasts,
		"an item's T with a byte more": ahead + "\x01\x00" + noTime + "\x00\x00\x00\x0b" + one[4:] + "\x00\x00" + noLasts,
		"an item's T with one less":    ahead + "\x01\x00" + noTime + "\x00\x00\x00\x09" + one[4:13] + "\x00" + noLasts,
		"an item's T of 2^32 - 1":      ahead + "\x01\x00" + noTime + "\xff\xff\xff\xff" + one[4:] + "\x00" + noLasts,
		"an item's T of all":           ahead + "\x01\x00" + noTime + "\x00\x00\x00\x33" + one[4:] + "\x00" + noLasts,
		"a text of 41":                 ahead + "\x01\x00" + noTime + "\x00\x00\x00\x2f\x01\x02\x00\x00\x00\x29" + strings.Repeat("x", 41) + "\x00" + noLasts,
		"65 items":                     ahead + "\x41" + strings.Repeat(item, 65) + "\x00" + noLasts,
		"25 of one":                    ahead + "\x19" + strings.Repeat(item, 25) + "\x00" + noLasts,
		"255 items, and none":          ahead + "\xff" + noLasts,
		"a waiter less than told":      ahead + "\x00\x02" + waits + open + noLasts,
		"a waiter more than told":      ahead + "\x00\x01" + waits + open + waits + open + noLasts,
		"17 waiters":                   ahead + "\x00\x11" + strings.Repeat(waits+open, 17) + noLasts,
		"a waiter's Client 4":          ahead + "\x00\x01\x04" + waits[1:] + open + noLasts,
		"a waiter's Seq 0":             ahead + "\x00\x01\x00\x00\x00\x00\x00\x00" + open + noLasts,
		"a waiter's Seq 2^30 + 1":      ahead + "\x00\x01\x00\x40\x00\x00\x01\x00" + open + noLasts,
		"a waiter's Seq 2^32 - 1":      ahead + "\x00\x01\x00\xff\xff\xff\xff\x00" + open + noLasts,
		"Take 2":                       ahead + "\x00\x01\x00\x00\x00\x00\x01\x02" + open + noLasts,
		"Take 255":                     ahead + "\x00\x01\x00\x00\x00\x00\x01\xff" + open + noLasts,
		"a waiter without P":           ahead + "\x00\x01" + waits + "\x00\x00\x00\x00" + noLasts,
		"a waiter's P of no fields":    ahead + "\x00\x01" + waits + "\x00\x00\x00\x01\x00" + noLasts,
		"a waiter's P of kind 6":       ahead + "\x00\x01" + waits + "\x00\x00\x00\x02\x01\x06" + noLasts,
		"a waiter's P, cut":            ahead + "\x00\x01" + waits + "\x00\x00\x00\x01\x01" + noLasts,
		"Seq 2^30 + 1":                 ahead + "\x00\x00\x40\x00\x00\x01\x01\x00\x00\x00\x00\x00" + three,
		"Seq 2^32 - 1":                 ahead + "\x00\x00\xff\xff\xff\xff\x01\x00\x00\x00\x00\x00" + three,
		"Seq without a Kind":           ahead + "\x00\x00\x00\x00\x00\x01\x00\x00\x00\x00\x00\x00" + three,
		"a Kind without Seq":           ahead + "\x00\x00\x00\x00\x00\x00\x01\x00\x00\x00\x00\x00" + three,
		"ROld":                         ahead + "\x00\x00\x00\x00\x00\x01\x07\x00\x00\x00\x00\x00" + three,
		"Kind 255":                     ahead + "\x00\x00\x00\x00\x00\x01\xff\x00\x00\x00\x00\x00" + three,
		"Late without Seq":             ahead + "\x00\x00\x00\x00\x00\x00\x00\x01\x00\x00\x00\x00" + three,
		"Late without a tuple":         ahead + "\x00\x00\x00\x00\x00\x01\x01\x01\x00\x00\x00\x00" + three,
		"Late 2 without Seq":           ahead + "\x00\x00\x00\x00\x00\x00\x00\x02\x00\x00\x00\x00" + three,
		"Late 2":                       ahead + "\x00\x00" + told + "\x02" + one + three,
		"Late 255":                     ahead + "\x00\x00" + told + "\xff" + one + three,
		"RTuple without T":             ahead + "\x00\x00" + told + "\x00\x00\x00\x00\x00" + three,
		"RTuple with a template":       ahead + "\x00\x00" + told + "\x00" + open + three,
		"RTuple with no fields":        ahead + "\x00\x00" + told + "\x00\x00\x00\x00\x01\x00" + three,
		"RDone with T":                 ahead + "\x00\x00\x00\x00\x00\x01\x01\x00" + one + three,
		"RDone with no fields":         ahead + "\x00\x00\x00\x00\x00\x01\x01\x00\x00\x00\x00\x01\x00" + three,
		"RDone with what is no T":      ahead + "\x00\x00\x00\x00\x00\x01\x01\x00\x00\x00\x00\x02\x01\x06" + three,
		"T without Seq":                ahead + "\x00\x00\x00\x00\x00\x00\x00\x00" + one + three,
		"no Seq, but what is no T":     ahead + "\x00\x00\x00\x00\x00\x00\x00\x00\x00\x00\x00\x01\x07" + three,
		"the last T of more than all":  ahead + "\x00\x00" + three + "\x00\x00\x00\x00\x00\x00\x00\x00\x00\x01",
	} {
		refused(t, name, []byte(b))
		if _, ok := plainGet([]byte(b)); ok {
			t.Errorf("%s: it may be", name)
		}
	}
	refused(t, "nil", nil)
	refused(t, "a million noughts", make([]byte, 1<<20))
	refused(t, "a million ones", bytes.Repeat([]byte{1}, 1<<20))
	refused(t, "a million times 255", bytes.Repeat([]byte{255}, 1<<20))
}

// Promise 9.1: the same parts, as they may be.
func TestGetRight(t *testing.T) {
	item := "\x00" + noTime + one
	for name, b := range map[string]string{
		"a new one":             ahead + "\x00\x00" + noLasts,
		"an item":               ahead + "\x01" + item + "\x00" + noLasts,
		"24 of one":             ahead + "\x18" + strings.Repeat(item, 24) + "\x00" + noLasts,
		"Until 2^41":            ahead + "\x01\x03\x00\x00\x02\x00\x00\x00\x00\x00" + one + "\x00" + noLasts,
		"Until above Now":       "\x00\x00\x00\x00\x00\x00\x00\x05\x0f\x0f\x01\x00\x00\x00\x00\x00\x00\x00\x00\x06" + one + "\x00" + noLasts,
		"a waiter":              ahead + "\x00\x01" + waits + open + noLasts,
		"a waiter that takes":   ahead + "\x00\x01" + waits[:5] + "\x01" + one + noLasts,
		"16 waiters":            ahead + "\x00\x10" + strings.Repeat(waits+open, 16) + noLasts,
		"a tuple":               ahead + "\x00\x00" + told + "\x00" + one + three,
		"a late tuple":          ahead + "\x00\x00" + told + "\x01" + one + three,
		"the last client's own": ahead + "\x00\x00" + three + told + "\x01" + one,
		"Seq 2^30":              ahead + "\x00\x00\x40\x00\x00\x00\x06\x00\x00\x00\x00\x00" + three,
	} {
		if again := put(t, get(t, []byte(b))); string(again) != b {
			t.Errorf("%s: written again: %x", name, again)
		}
		alike(t, []byte(b))
	}
}

// Promise 9.1: each byte of a space's, in all that it may be.
func TestGetOfEachByte(t *testing.T) {
	for _, s := range []api.Space{space.New(15, 15), whole()} {
		b := put(t, s)
		for at := range b {
			for c := range 256 {
				other := slices.Clone(b)
				other[at] = byte(c)
				alike(t, other)
			}
		}
	}
}

// Promise 9.1: bytes of Put that are cut, longer, twice, or with a byte left out, doubled or turned.
func TestGetOfTurnedBytes(t *testing.T) {
	chance := rand.New(rand.NewSource(96))
	for range 20 {
		b := put(t, randomSpace(chance, 4))
		for n := range b {
			refused(t, "cut", b[:n])
			alike(t, b[n:])
			alike(t, slices.Concat(b[:n], b[n+1:]))
			alike(t, slices.Concat(b[:n+1], b[n:]))
			for range 4 {
				other := slices.Clone(b)
				other[n] = byte(chance.Intn(256))
				alike(t, other)
				other[n] = byte(chance.Intn(9))
				alike(t, other)
			}
		}
		for c := range 256 {
			refused(t, "longer", append(b[:len(b):len(b)], byte(c)))
		}
		refused(t, "twice", slices.Concat(b, b))
	}
}

// Promise 9.1: bytes of the fullest space that are cut, and turned here and there.
func TestGetOfTheFullest(t *testing.T) {
	chance := rand.New(rand.NewSource(97))
	b := put(t, fullest())
	for n := 0; n < len(b); n += 97 {
		refused(t, "cut", b[:n])
	}
	for range 1000 {
		other := slices.Clone(b)
		other[chance.Intn(len(b))] = byte(chance.Intn(256))
		alike(t, other)
	}
	refused(t, "longer", append(b, 0))
}

// Promise 9.1: bytes by chance.
func TestGetOfChance(t *testing.T) {
	chance := rand.New(rand.NewSource(98))
	for range 20000 {
		b := make([]byte, chance.Intn(120))
		most := 1 + chance.Intn(256)
		for at := range b {
			if chance.Intn(3) == 0 {
				b[at] = byte(chance.Intn(most))
			}
		}
		alike(t, b)
	}
}

// Promise 9.1: a space comes back from its bytes, and no two have the same ones.
func TestTheyComeBack(t *testing.T) {
	chance := rand.New(rand.NewSource(99))
	seen := map[string]api.Space{}
	for n := range 3000 {
		s := randomSpace(chance, []int{0, 1, 3, 64}[n%4])
		b := put(t, s)
		if !bytes.Equal(b, plainPut(s)) {
			t.Fatalf("%v: %x", s, b)
		}
		back := get(t, b)
		if !sameParts(back, s) || !space.Same(back, s) || !space.May(back) {
			t.Fatalf("%v: %v", s, back)
		}
		if other, ok := seen[string(b)]; ok && !sameParts(other, s) {
			t.Fatalf("%v and %v: %x", s, other, b)
		}
		seen[string(b)] = s
	}
}

// Promise 9.1: what comes back goes on as the space that was written.
func TestTheyGoOn(t *testing.T) {
	chance := rand.New(rand.NewSource(100))
	for range 500 {
		s := playedSpace(chance)
		back := get(t, put(t, s))
		for range 10 {
			r := api.Request{Client: chance.Intn(4), Seq: 1 + chance.Intn(40), Kind: api.In, P: list(anyOne)}
			now := s.Now + chance.Intn(3)
			next, replies := space.Do(s, now, r)
			other, same := space.Do(back, now, r)
			if !sameParts(next, other) || len(replies) != len(same) || !bytes.Equal(put(t, next), put(t, other)) {
				t.Fatalf("%v, %v: %v", s, r, other)
			}
			s, back = next, other
		}
	}
}

// fieldLists are all lists of fields that the space has.
func fieldLists(s api.Space) [][]api.Field {
	var l [][]api.Field
	for _, i := range s.Items {
		l = append(l, i.T)
	}
	for _, w := range s.Waiters {
		l = append(l, w.P)
	}
	for _, last := range s.Last {
		l = append(l, last.T)
	}
	return l
}

// Promise 9.1 (and rule 2): what is answered is the caller's own.
func TestTheyShareNothing(t *testing.T) {
	s := whole()
	first, second := put(t, s), put(t, s)
	clear(first[:cap(first)])
	if string(second) != wholeBytes() || string(put(t, s)) != wholeBytes() {
		t.Error("two answers of Put share bytes")
	}
	b := []byte(wholeBytes())
	answer, other := get(t, b), get(t, b)
	if string(b) != wholeBytes() {
		t.Error("Get changes what is handed in")
	}
	clear(b)
	if !sameParts(answer, s) {
		t.Errorf("Get keeps what was handed in: %v", answer)
	}
	for at, l := range fieldLists(answer) {
		was := copyFields(l)
		clear(l[:cap(l)])
		for place, rest := range fieldLists(answer) {
			if place > at && !slices.Equal(rest, fieldLists(s)[place]) {
				t.Errorf("lists %d and %d of an answer share fields", at, place)
			}
		}
		copy(l, was)
	}
	clear(answer.Items[:cap(answer.Items)])
	clear(answer.Waiters[:cap(answer.Waiters)])
	if !sameParts(other, s) {
		t.Error("two answers of Get share something")
	}
}
