package entry

import (
	"bytes"
	"math/rand"
	"slices"
	"strings"
	"testing"

	"chirograph/api"
	"chirograph/oper"
	"chirograph/sha"
)

const (
	zero     = "\x00\x00\x00\x00\x00\x00\x00\x00" // a time, or no lease
	none     = "\x00\x00\x00\x00"                 // no fields
	firstNop = "\x00\x00\x00\x00\x01\x08" + zero + none + none
	otherNop = "\x03\x40\x00\x00\x00\x08" + zero + none + none
	outSeven = "\x01\x00\x00\x00\x02\x01\x00\x00\x00\x00\x00\x00\x00\x05" + none + "\x00\x00\x00\x0a\x01\x01\x00\x00\x00\x00\x00\x00\x00\x07"
	rdAny    = "\x02\x00\x00\x01\x00\x04" + zero + "\x00\x00\x00\x02\x01\x05" + none

	nopText = "\x00\x00\x00\x16" + firstNop
	outText = "\x00\x00\x00\x20" + outSeven
	rdText  = "\x00\x00\x00\x18" + rdAny
)

// Promise 11.1: the bytes of some, written out.
func TestPutBytes(t *testing.T) {
	for _, k := range []struct {
		name string
		e    api.Entry
		want string
	}{
		{"one Nop", at(0, nop(0, 1)), zero + "\x01" + nopText},
		{"a Now of all its bytes", at(0x0102030405, nop(0, 1)), "\x00\x00\x00\x01\x02\x03\x04\x05\x01" + nopText},
		{"the last Now", at(1<<40, nop(0, 1)), "\x00\x00\x01\x00\x00\x00\x00\x00\x01" + nopText},
		{"another Nop", at(258, nop(3, 1<<30)), "\x00\x00\x00\x00\x00\x00\x01\x02\x01\x00\x00\x00\x16" + otherNop},
		{"three", at(1, leased(1, 2, 5, number(7)), ask(2, 256, api.Rd, anyOne), nop(0, 1)), zero[:7] + "\x01\x03" + outText + rdText + nopText},
		{"three, turned", at(1, nop(0, 1), ask(2, 256, api.Rd, anyOne), leased(1, 2, 5, number(7))), zero[:7] + "\x01\x03" + nopText + rdText + outText},
		{"eight", at(0, slices.Repeat([]api.Request{nop(0, 1)}, 8)...), zero + "\x08" + strings.Repeat(nopText, 8)},
	} {
		if b := put(t, k.e); string(b) != k.want {
			t.Errorf("%s: Put: %x, want %x", k.name, b, k.want)
		}
		if e := get(t, []byte(k.want)); !sameParts(e, k.e) {
			t.Errorf("%s: Get: %v", k.name, e)
		}
	}
	if n := len(put(t, ofEachKind())); n != 322 {
		t.Errorf("one of each kind: %d bytes", n)
	}
	if n := len(put(t, largest())); n != 4553 {
		t.Errorf("the largest: %d bytes", n)
	}
}

// Promise 11.1: bytes that no Put makes, by their parts.
func TestGetWrong(t *testing.T) {
	for name, b := range map[string]string{
		"nothing":                      "",
		"half a Now":                   zero[:4],
		"Now alone":                    zero,
		"no requests":                  zero + "\x00",
		"none, and bytes":              zero + "\x00" + nopText,
		"none where there is one":      zero + "\x01",
		"half a length":                zero + "\x01\x00\x00",
		"a length alone":               zero + "\x01\x00\x00\x00\x16",
		"an empty request":             zero + "\x01" + none,
		"an empty one and a Nop":       zero + "\x02" + none + nopText,
		"a Nop and an empty one":       zero + "\x02" + nopText + none,
		"a byte ahead":                 "\x00" + zero + "\x01" + nopText,
		"a byte behind":                zero + "\x01" + nopText + "\x00",
		"a request behind":             zero + "\x01" + nopText + nopText,
		"one too few":                  zero + "\x02" + nopText,
		"two of three":                 zero + "\x02" + nopText + rdText + outText,
		"nine":                         zero + "\x09" + strings.Repeat(nopText, 9),
		"255":                          zero + "\xff" + strings.Repeat(nopText, 255),
		"256, by one byte":             zero + "\x00" + strings.Repeat(nopText, 256),
		"257, by one byte":             zero + "\x01" + strings.Repeat(nopText, 257),
		"eight of nine":                zero + "\x08" + strings.Repeat(nopText, 9),
		"nine, told as eight and one":  zero + "\x08" + strings.Repeat(nopText, 8) + "\x01" + nopText,
		"a number of four bytes":       zero + none[:3] + "\x01" + nopText,
		"Now in four bytes":            zero[:4] + "\x01" + nopText,
		"Now behind":                   "\x01" + zero + nopText,
		"Now MaxTime + 1":              "\x00\x00\x01\x00\x00\x00\x00\x01\x01" + nopText,
		"Now 2^41":                     "\x00\x00\x02\x00\x00\x00\x00\x00\x01" + nopText,
		"Now 2^62":                     "\x40\x00\x00\x00\x00\x00\x00\x00\x01" + nopText,
		"Now 2^63":                     "\x80\x00\x00\x00\x00\x00\x00\x00\x01" + nopText,
		"Now 2^63 - 1":                 "\x7f\xff\xff\xff\xff\xff\xff\xff\x01" + nopText,
		"Now 2^64 - 1":                 "\xff\xff\xff\xff\xff\xff\xff\xff\x01" + nopText,
		"a length of one less":         zero + "\x01\x00\x00\x00\x15" + firstNop,
		"of one less, and cut":         zero + "\x01\x00\x00\x00\x15" + firstNop[:21],
		"a length of one more":         zero + "\x01\x00\x00\x00\x17" + firstNop,
		"of one more, and longer":      zero + "\x01\x00\x00\x00\x17" + firstNop + "\x00",
		"a length of both":             zero + "\x02\x00\x00\x00\x2c" + firstNop + firstNop,
		"of both, as one":              zero + "\x01\x00\x00\x00\x2c" + firstNop + firstNop,
		"a length of 2^31":             zero + "\x01\x80\x00\x00\x16" + firstNop,
		"a length of 2^32 - 1":         zero + "\x01\xff\xff\xff\xff" + firstNop,
		"a length in two bytes":        zero + "\x01\x00\x16" + firstNop,
		"a length of the first alone":  zero + "\x02" + nopText + firstNop,
		"a request without its length": zero + "\x01" + firstNop,
		"a Nop of Client 4":            zero + "\x01\x00\x00\x00\x16\x04" + firstNop[1:],
		"a Nop of Seq 0":               zero + "\x01\x00\x00\x00\x16" + zero[:5] + firstNop[5:],
		"a kind 9":                     zero + "\x01\x00\x00\x00\x16" + firstNop[:5] + "\x09" + firstNop[6:],
		"a second one that is wrong":   zero + "\x02" + nopText + "\x00\x00\x00\x16" + firstNop[:5] + "\x09" + firstNop[6:],
		"a first one that is wrong":    zero + "\x02\x00\x00\x00\x16" + firstNop[:5] + "\x09" + firstNop[6:] + nopText,
		"an eighth one that is wrong":  zero + "\x08" + strings.Repeat(nopText, 7) + "\x00\x00\x00\x16" + firstNop[:5] + "\x00" + firstNop[6:],
		"an Out of a template":         zero + "\x01\x00\x00\x00\x18" + outSeven[:18] + "\x00\x00\x00\x02\x01\x05",
	} {
		nothing(t, name, []byte(b))
		if _, ok := plainGet([]byte(b)); ok {
			t.Errorf("%s: it may be", name)
		}
	}
	nothing(t, "nil", nil)
	for _, c := range []byte{0, 1, 2, 8, 255} {
		nothing(t, "a million alike", bytes.Repeat([]byte{c}, 1<<20))
	}
	nothing(t, "a million behind", append([]byte(zero+"\x01"+nopText), make([]byte, 1<<20)...))
	nothing(t, "requests of a million bytes", slices.Concat([]byte(zero+"\x01\x00\x10\x00\x00"), make([]byte, 1<<20)))
}

// Promise 11.1: each byte of some, in all that it may be.
func TestGetOfEachByte(t *testing.T) {
	eight := at(7, nops(8)...)
	for _, e := range []api.Entry{at(0, nop(0, 1)), at(1<<40, nop(3, 1<<30)), eight, ofEachKind()} {
		b := put(t, e)
		for n := range b {
			was := b[n]
			for c := range 256 {
				b[n] = byte(c)
				alike(t, b)
			}
			b[n] = was
		}
	}
}

// Promise 11.1: every number of requests that a byte may tell, ahead of as many as there are from none to ten.
func TestGetOfEachNumber(t *testing.T) {
	for many := range 11 {
		for told := range 256 {
			b := []byte(zero + string([]byte{byte(told)}) + strings.Repeat(nopText, many))
			alike(t, b)
			if _, fault := Get(b); (fault == api.OK) != (told == many && many >= 1 && many <= 8) {
				t.Errorf("%d, told as %d: error %d", many, told, fault)
			}
		}
	}
}

// Promise 11.1: bytes of Put that are cut, longer, twice, or with a byte left out, doubled or turned.
func TestGetOfTurnedBytes(t *testing.T) {
	chance := rand.New(rand.NewSource(113))
	for range 60 {
		b := put(t, anyEntry(chance))
		for n := range b {
			nothing(t, "cut", b[:n])
			alike(t, b[n:])
			alike(t, slices.Concat(b[:n], b[n+1:]))
			alike(t, slices.Concat(b[:n+1], b[n:]))
			for range 4 {
				other := slices.Clone(b)
				other[n] = byte(chance.Intn(256))
				other[chance.Intn(len(b))] = byte(chance.Intn(9))
				alike(t, other)
			}
		}
		for c := range 256 {
			nothing(t, "longer", append(b[:len(b):len(b)], byte(c)))
		}
		nothing(t, "twice", slices.Concat(b, b))
	}
}

// Promise 11.1: bytes by chance, and requests by chance behind a number by chance.
func TestGetOfChance(t *testing.T) {
	chance := rand.New(rand.NewSource(114))
	right := 0
	for range 20000 {
		b := make([]byte, chance.Intn(60))
		for n := range b {
			if chance.Intn(4) == 0 {
				b[n] = byte(chance.Intn(9))
			}
		}
		alike(t, b)
		b = []byte(zero + string([]byte{byte(chance.Intn(4))}))
		for range chance.Intn(4) {
			one, _ := oper.Put(randomRequest(chance, chance.Intn(4), chance.Intn(20)))
			b = append(b, 0, 0, 0, byte(len(one)))
			b = append(b, one...)
		}
		alike(t, b)
		if _, ok := plainGet(b); ok {
			right++
		}
	}
	if right < 2000 {
		t.Errorf("a test that asks too little: %d", right)
	}
}

// Promise 11.1: they come back from their bytes, and no two have the same ones.
func TestTheyComeBack(t *testing.T) {
	chance := rand.New(rand.NewSource(115))
	seen := map[string]api.Entry{}
	for range 10000 {
		e := anyEntry(chance)
		b := put(t, e)
		if back := get(t, b); !sameParts(back, e) || !May(back) {
			t.Fatalf("%v: %v", e, back)
		}
		if other, ok := seen[string(b)]; ok && !sameParts(other, e) {
			t.Fatalf("%v and %v: %x", e, other, b)
		}
		seen[string(b)] = e
	}
}

// Promise 11.1 (and rule 2): what is answered is the caller's own.
func TestBytesShareNothing(t *testing.T) {
	for _, e := range []api.Entry{ofEachKind(), largest()} {
		was := copyEntry(e)
		first, second := put(t, e), put(t, e)
		clear(first[:cap(first)])
		if !bytes.Equal(second, plainPut(e)) || !sameParts(e, was) {
			t.Error("two answers of Put share bytes, or bytes with what is handed in")
		}
		b := plainPut(e)
		answer, other := get(t, b), get(t, b)
		if !bytes.Equal(b, plainPut(e)) {
			t.Error("Get changes what is handed in")
		}
		clear(b)
		if !sameParts(answer, was) {
			t.Errorf("Get keeps what was handed in: %v", answer)
		}
		if !apart(fieldsOfEntry(answer)) {
			t.Error("two lists of an answer share fields")
		}
		clear(answer.List[:cap(answer.List)])
		if !sameParts(other, was) {
			t.Errorf("two answers of Get share something: %v", other)
		}
	}
}

// Promise 11.1: digests that another program made.
func TestKnownSums(t *testing.T) {
	for _, k := range []struct {
		name string
		b    []byte
		want string
	}{
		{"no bytes", []byte{}, "27cc4edc156570979a52b7b301e2686919e1f7e611abd1056d7617e1772ad7c8"},
		{"nil", nil, "27cc4edc156570979a52b7b301e2686919e1f7e611abd1056d7617e1772ad7c8"},
		{"one Nop", put(t, at(0, nop(0, 1))), "101445881c0b5c661fba1b7af983c6fc1a6fa1a41f96fa9736f655d256e556a7"},
		{"one of each kind", put(t, ofEachKind()), "6853cbd21240883d599e30370b885766e93b66418081e06352e08f79962cc083"},
		{"the largest", put(t, largest()), "4c85f738cf7cd9ff8951953a7c3b8d752bf49f5697fb5da4cdf01dc7dd5ac32c"},
		{"a million letters", bytes.Repeat([]byte("a"), 1000000), "3981f51b7e3140ac69b220162cbd565cd5cdacd13e5009f1122a2c2eddfaf52d"},
	} {
		if got := sha.Hex(Sum(k.b)); got != k.want {
			t.Errorf("%s: %s, want %s", k.name, got, k.want)
		}
	}
}

// Promise 11.1: Sum is of any bytes, changes none, and two of one byte less, more or turned have two.
func TestSum(t *testing.T) {
	chance := rand.New(rand.NewSource(116))
	seen := map[api.Hash]string{}
	for size := range 300 {
		b := make([]byte, size)
		chance.Read(b)
		was := string(b)
		for _, one := range [][]byte{b, append([]byte("ENTR"), b...), append([]byte{0}, b...), append(slices.Clone(b), 0)} {
			h := Sum(one)
			if h != plainSum(one) || h != sha.Sum(append([]byte("ENTR"), one...)) {
				t.Fatalf("%x: %x", one, h)
			}
			if other, ok := seen[h]; ok && other != string(one) {
				t.Fatalf("%x and %x: %x", other, one, h)
			}
			seen[h] = string(one)
		}
		if string(b) != was {
			t.Fatalf("%x: %x", was, b)
		}
	}
	b := put(t, ofEachKind())
	for n := range b {
		was := b[n]
		b[n]++
		if Sum(b) == Sum(put(t, ofEachKind())) || Sum(b) != plainSum(b) {
			t.Errorf("byte %d", n)
		}
		b[n] = was
	}
}
