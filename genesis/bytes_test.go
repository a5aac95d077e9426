package genesis

import (
	"bytes"
	"encoding/binary"
	"math/rand"
	"slices"
	"strings"
	"testing"

	"chirograph/api"
	"chirograph/space"
)

const (
	keyA = "\x00\x00\x00\x05\x00\x00\x00\x01aaaaaaaaaaaaaaaaaaaaaaaaaaaaaaaaaaaaaaaaaaaaaaaa"
	keyB = "\x00\x00\x00\x05\x00\x00\x00\x02bbbbbbbbbbbbbbbbbbbbbbbbbbbbbbbbbbbbbbbbbbbbbbbb"
	keyC = "\x00\x00\x00\x05\x00\x00\x00\x03cccccccccccccccccccccccccccccccccccccccccccccccc"
	keyD = "\x00\x00\x00\x05\x00\x00\x00\x04dddddddddddddddddddddddddddddddddddddddddddddddd"

	noStart = "\x00\x00\x00\x00"

	// freshStart is the Text of the bytes of a new space that 13 may read and 7 may write.
	freshStart = "\x00\x00\x00\x34" + "\x00\x00\x00\x00\x00\x00\x00\x00\x0d\x07\x00\x00" +
		noReply + noReply + noReply + noReply
	noReply = "\x00\x00\x00\x00\x00\x00\x00\x00\x00\x00"
)

// Promise 10.1: the bytes of some, written out.
func TestPutBytes(t *testing.T) {
	fresh := bare(0)
	fresh.Start = bytesOf(space.New(13, 7))
	nobody := bare(0)
	nobody.Read, nobody.Write = 0, 0
	for _, k := range []struct {
		name string
		g    api.Genesis
		want string
	}{
		{"F 0", bare(0), "\x00\x0d\x07" + keyA + noStart},
		{"one that nobody may use", nobody, "\x00\x00\x00" + keyA + noStart},
		{"F 0, started", fresh, "\x00\x0d\x07" + keyA + freshStart},
		{"F 1", bare(1), "\x01\x0d\x07" + keyA + keyB + keyC + keyD + noStart},
	} {
		if b := put(t, k.g); string(b) != k.want {
			t.Errorf("%s: Put: %x, want %x", k.name, b, k.want)
		}
		if g := get(t, []byte(k.want)); !sameParts(g, k.g) {
			t.Errorf("%s: Get: %v", k.name, g)
		}
	}
	for f, keys := range []int{1, 4, 7} {
		if n := len(put(t, bare(f))); n != 3+56*keys+4 { // the chapter's example is F 0
			t.Errorf("F %d: %d bytes", f, n)
		}
	}
}

// Promise 10.1: bytes that no Put makes, by their parts.
func TestGetWrong(t *testing.T) {
	head, four := "\x00\x0d\x07", keyA+keyB+keyC+keyD
	for name, b := range map[string]string{
		"nothing":                      "",
		"F alone":                      "\x00",
		"F and Read":                   "\x00\x0d",
		"no keys":                      head,
		"no key, but a Start":          head + noStart,
		"no Start":                     head + keyA,
		"half a Start's length":        head + keyA + "\x00\x00",
		"a byte ahead":                 "\x00" + head + keyA + noStart,
		"a byte behind":                head + keyA + noStart + "\x00",
		"a key less a byte":            head + keyA[:55] + noStart,
		"a key and a byte":             head + keyA + "a" + noStart,
		"F 0, two keys":                head + keyA + keyB + noStart,
		"F 0, four keys":               head + four + noStart,
		"F 1, a key":                   "\x01\x0d\x07" + keyA + noStart,
		"F 1, three keys":              "\x01\x0d\x07" + keyA + keyB + keyC + noStart,
		"F 1, five keys":               "\x01\x0d\x07" + four + keyA + noStart,
		"F 1, seven keys":              "\x01\x0d\x07" + four + keyA + keyB + keyC + noStart,
		"F 2, four keys":               "\x02\x0d\x07" + four + noStart,
		"F 2, six keys":                "\x02\x0d\x07" + four + keyA + keyB + noStart,
		"F 2, eight keys":              "\x02\x0d\x07" + four + four + noStart,
		"F 3, ten keys":                "\x03\x0d\x07" + four + four + keyA + keyB + noStart,
		"F 3, seven keys":              "\x03\x0d\x07" + four + keyA + keyB + keyC + noStart,
		"F 255, and nothing":           "\xff\x0d\x07",
		"F 255, seven keys":            "\xff\x0d\x07" + four + keyA + keyB + keyC + noStart,
		"F 255, 766 keys":              "\xff\x0d\x07" + strings.Repeat(keyA, 766) + noStart,
		"F 85, no keys":                "\x55\x0d\x07" + noStart,
		"Read 16":                      "\x00\x10\x07" + keyA + noStart,
		"Read 255":                     "\x00\xff\x07" + keyA + noStart,
		"Write 16":                     "\x00\x0d\x10" + keyA + noStart,
		"Write 255":                    "\x00\x0d\xff" + keyA + noStart,
		"a key's typecode 6":           head + "\x00\x00\x00\x06" + keyA[4:] + noStart,
		"a key's OTS's typecode 0":     head + "\x00\x00\x00\x05\x00\x00\x00\x00" + keyA[8:] + noStart,
		"the fourth's typecode 5":      "\x01\x0d\x07" + keyA + keyB + keyC + "\x00\x00\x00\x05\x00\x00\x00\x05" + keyD[8:] + noStart,
		"a key as a Text":              head + "\x00\x00\x00\x38" + keyA + noStart,
		"a Start that is not there":    head + keyA + "\x00\x00\x00\x34",
		"a Start of 2^32 - 1":          head + keyA + "\xff\xff\xff\xff" + freshStart[4:],
		"a Start of 2^31":              head + keyA + "\x80\x00\x00\x00" + freshStart[4:],
		"a Start of one less":          head + keyA + "\x00\x00\x00\x33" + freshStart[4:],
		"a Start of one more":          head + keyA + "\x00\x00\x00\x35" + freshStart[4:],
		"a Start that is longer":       head + keyA + "\x00\x00\x00\x35" + freshStart[4:] + "\x00",
		"a Start that is cut":          head + keyA + "\x00\x00\x00\x33" + freshStart[4:len(freshStart)-1],
		"a Start's length of two":      head + keyA + freshStart[2:],
		"two Starts":                   head + keyA + freshStart + freshStart,
		"a Start, and none":            head + keyA + freshStart + noStart,
		"no Start, and one":            head + keyA + noStart + freshStart,
		"another Read than the Start":  "\x00\x0f\x07" + keyA + freshStart,
		"another Write than the Start": "\x00\x0d\x0f" + keyA + freshStart,
		"Read and Write, turned":       "\x00\x07\x0d" + keyA + freshStart,
		"a Start of a byte":            head + keyA + "\x00\x00\x00\x01\x00",
		"the Start ahead of the keys":  head + freshStart + keyA,
	} {
		nothing(t, name, []byte(b))
		if _, ok := plainGet([]byte(b)); ok {
			t.Errorf("%s: it may be", name)
		}
	}
	nothing(t, "nil", nil)
	for _, c := range []byte{0, 1, 2, 3, 255} {
		nothing(t, "a million alike", bytes.Repeat([]byte{c}, 1<<20))
	}
}

// Promise 10.1: each byte of some, in all that it may be.
func TestGetOfEachByte(t *testing.T) {
	for _, g := range []api.Genesis{bare(0), bare(1), bare(2), started(0), started(1)} {
		b := put(t, g)
		for at := range b {
			was := b[at]
			for c := range 256 {
				b[at] = byte(c)
				alike(t, b)
			}
			b[at] = was
		}
	}
}

// Promise 10.1: bytes of Put that are cut, longer, twice, or with a byte left out, doubled or turned.
func TestGetOfTurnedBytes(t *testing.T) {
	chance := rand.New(rand.NewSource(103))
	for range 20 {
		b := put(t, randomGenesis(chance))
		for n := range b {
			nothing(t, "cut", b[:n])
			alike(t, b[n:])
			alike(t, slices.Concat(b[:n], b[n+1:]))
			alike(t, slices.Concat(b[:n+1], b[n:]))
			for range 4 {
				other := slices.Clone(b)
				other[n] = byte(chance.Intn(256))
				other[chance.Intn(len(b))] = byte(chance.Intn(9))
				alike(t, other)
			}
		}
		for c := range 256 {
			nothing(t, "longer", append(b[:len(b):len(b)], byte(c)))
		}
		nothing(t, "twice", slices.Concat(b, b))
	}
}

// Promise 10.1: bytes by chance, and such as have the right length.
func TestGetOfChance(t *testing.T) {
	chance := rand.New(rand.NewSource(104))
	for n := range 20000 {
		b := make([]byte, chance.Intn(500))
		if n%2 == 0 {
			b = make([]byte, 3+56*(1+3*chance.Intn(4))+4)
		}
		for at := range b {
			if chance.Intn(4) == 0 {
				b[at] = byte(chance.Intn(6))
			}
		}
		for at := 3; at+8 <= len(b) && chance.Intn(9) > 0; at += 56 {
			binary.BigEndian.PutUint64(b[at:], 5<<32+uint64(1+chance.Intn(4)))
		}
		alike(t, b)
	}
}

// Promise 10.1: they come back from their bytes, and no two have the same ones.
func TestTheyComeBack(t *testing.T) {
	chance := rand.New(rand.NewSource(105))
	seen := map[string]api.Genesis{}
	for range 3000 {
		g := randomGenesis(chance)
		b := put(t, g)
		if back := get(t, b); !sameParts(back, g) || !Same(back, g) || !May(back) {
			t.Fatalf("%v: %v", g, back)
		}
		if other, ok := seen[string(b)]; ok && !sameParts(other, g) {
			t.Fatalf("%v and %v: %x", g, other, b)
		}
		seen[string(b)] = g
	}
}

// Promise 10.1 (and rule 2): what is answered is the caller's own.
func TestTheyShareNothing(t *testing.T) {
	for f := range 3 {
		g := started(f)
		first, second := put(t, g), put(t, g)
		clear(first[:cap(first)])
		if !bytes.Equal(second, plainPut(g)) || !sameParts(g, started(f)) {
			t.Error("two answers of Put share bytes, or bytes with what is handed in")
		}
		b := plainPut(g)
		answer, other := get(t, b), get(t, b)
		if !bytes.Equal(b, plainPut(g)) {
			t.Error("Get changes what is handed in")
		}
		clear(b)
		if !sameParts(answer, g) {
			t.Errorf("Get keeps what was handed in: %v", answer)
		}
		clear(answer.Start[:cap(answer.Start)])
		for _, key := range answer.Keys {
			clear(key[:cap(key)])
		}
		clear(answer.Keys[:cap(answer.Keys)])
		if !sameParts(other, g) {
			t.Errorf("two answers of Get share something: %v", other)
		}
	}
}

// Promise 10.1 (and rule 2, and the section Ways): who adds to a key, or to the keys, that are handed out writes over nothing else.
func TestKeysEndWhereTheyEnd(t *testing.T) {
	for f := range 3 {
		for at := range 3*f + 1 {
			g := get(t, plainPut(started(f)))
			longer := append(g.Keys[at], "more behind it"...)
			if !sameParts(g, started(f)) || string(longer[56:]) != "more behind it" {
				t.Errorf("F %d: key %d runs on into another part: %v", f, at, g)
			}
			clear(g.Keys[at][:cap(g.Keys[at])])
			g.Keys[at] = keyOf(byte(1+at%4), string(rune('a'+at)))
			if !sameParts(g, started(f)) {
				t.Errorf("F %d: key %d shares bytes with another part: %v", f, at, g)
			}
		}
	}
}
