package vote

import (
	"bytes"
	"math/rand"
	"slices"
	"strings"
	"testing"

	"chirograph/api"
)

const (
	linkA = "\x01\x02\x03\x04\x05\x06\x07\x08\x09\x0a\x0b\x0c\x0d\x0e\x0f\x10\x11\x12\x13\x14\x15\x16\x17\x18\x19\x1a\x1b\x1c\x1d\x1e\x1f\x20"
	noSig = "\x00\x00\x00\x00"
	sigA  = "\x00\x00\x00\x06signed"
)

// Promise 13.2: the bytes of some, written out.
func TestPutBytes(t *testing.T) {
	long := bytes.Repeat([]byte{7}, 9000)
	for _, k := range []struct {
		name string
		v    api.Vote
		want string
	}{
		{"nothing", api.Vote{}, "\x00\x00\x00\x00\x00" + strings.Repeat("\x00", 32) + noSig},
		{"an empty signature", api.Vote{Link: hashOf(1), Sig: []byte{}}, "\x00\x00\x00\x00\x00" + linkA + noSig},
		{"something in each part", some(), "\x00\x00\x01\x02\x03" + linkA + sigA},
		{"the last place and replica", api.Vote{Place: api.MaxPlace, From: 6, Link: hashOf(1), Sig: []byte("signed")}, "\x00\x10\x00\x00\x06" + linkA + sigA},
		{"one ahead of the last place", api.Vote{Place: api.MaxPlace - 1, From: 5, Link: hashOf(1)}, "\x00\x0f\xff\xff\x05" + linkA + noSig},
		{"the longest signature", api.Vote{Place: 1, From: 1, Link: hashOf(1), Sig: long}, "\x00\x00\x00\x01\x01" + linkA + "\x00\x00\x23\x28" + string(long)},
	} {
		if b := put(t, k.v); string(b) != k.want {
			t.Errorf("%s: Put: %x, want %x", k.name, b, k.want)
		}
		if v := get(t, []byte(k.want)); !sameParts(v, k.v) || !Same(v, k.v) {
			t.Errorf("%s: Get: %v", k.name, v)
		}
	}
}

// Promise 13.2: a place from 0 to MaxPlace, and no other.
func TestPutOfPlaces(t *testing.T) {
	for _, place := range edges() {
		v := some()
		v.Place = place
		if place >= 0 && place <= 1<<20 {
			put(t, v)
		} else {
			unput(t, "a place", v)
		}
	}
}

// Promise 13.2: a From from 0 to 6, and no other.
func TestPutOfFroms(t *testing.T) {
	for _, from := range append(edges(), 2, 3, 4, 5, 6, 7) {
		v := some()
		v.From = from
		if from >= 0 && from <= 6 {
			put(t, v)
		} else {
			unput(t, "a From", v)
		}
	}
}

// Promise 13.2: a signature of at most 9,000 bytes.
func TestPutOfSigs(t *testing.T) {
	for _, size := range []int{0, 1, 255, 256, 1292, 8684, 8999, 9000, 9001, 9002, 1 << 14, 1<<16 + 1, 1 << 20} {
		v := some()
		v.Sig = bytes.Repeat([]byte{9}, size)
		if size <= 9000 {
			put(t, v)
		} else {
			unput(t, "a signature", v)
			nothing(t, "a signature", plainPut(v))
		}
	}
}

// Promise 13.2: two parts that are wrong, and all.
func TestPutOfAllWrong(t *testing.T) {
	long := make([]byte, 9001)
	unput(t, "Place and From", api.Vote{Place: -1, From: 7})
	unput(t, "Place and Sig", api.Vote{Place: api.MaxPlace + 1, Sig: long})
	unput(t, "From and Sig", api.Vote{From: -1, Sig: long})
	unput(t, "all", api.Vote{Place: -1, From: 7, Link: hashOf(1), Sig: long})
}

// Promises 13.1, 13.2: what checks may be put, and checks when it is read.
func TestCheckedComesBack(t *testing.T) {
	for _, g := range houses() {
		for from := range g.Keys {
			v := cast(g, from, from, 1+from*1000, hashOf(byte(from)))
			back := get(t, put(t, v))
			if !Same(back, v) {
				t.Errorf("from %d: %v", from, back)
			}
			checked(t, "read", g, back, api.OK)
		}
	}
}

// Promise 13.2: bytes that no Put makes, by their parts.
func TestGetWrong(t *testing.T) {
	head := "\x00\x00\x01\x02\x03" + linkA
	for name, b := range map[string]string{
		"nothing":                        "",
		"a place alone":                  "\x00\x00\x01\x02",
		"half a place":                   "\x00\x00",
		"no link":                        "\x00\x00\x01\x02\x03",
		"no link, but a signature":       "\x00\x00\x01\x02\x03" + sigA,
		"a link, cut":                    head[:36] + sigA,
		"a link, longer":                 head + "\x21" + sigA,
		"a link as a Text":               "\x00\x00\x01\x02\x03\x00\x00\x00\x20" + linkA + sigA,
		"no signature":                   head,
		"half a signature's length":      head + "\x00\x00",
		"a signature that is not there":  head + "\x00\x00\x00\x06",
		"a signature without its length": head + "signed",
		"a byte ahead":                   "\x00" + head + sigA,
		"a byte behind":                  head + sigA + "\x00",
		"two signatures":                 head + sigA + sigA,
		"a signature, and none":          head + sigA + noSig,
		"no signature, and one":          head + noSig + sigA,
		"a length of one less":           head + "\x00\x00\x00\x05signed",
		"a length of one more":           head + "\x00\x00\x00\x07signed",
		"a length of 9,001":              head + "\x00\x00\x23\x29" + strings.Repeat("s", 9001),
		"a length of 9,000, one more":    head + "\x00\x00\x23\x28" + strings.Repeat("s", 9001),
		"a length of 9,000, one less":    head + "\x00\x00\x23\x28" + strings.Repeat("s", 8999),
		"a length of 2^31":               head + "\x80\x00\x00\x06signed",
		"a length of 2^32 - 1":           head + "\xff\xff\xff\xffsigned",
		"a length in two":                head + "\x00\x06signed",
		"place MaxPlace + 1":             "\x00\x10\x00\x01\x03" + linkA + sigA,
		"place 2^24":                     "\x01\x00\x00\x00\x03" + linkA + sigA,
		"place 2^31":                     "\x80\x00\x00\x00\x03" + linkA + sigA,
		"place 2^32 - 1":                 "\xff\xff\xff\xff\x03" + linkA + sigA,
		"a place in eight":               "\x00\x00\x00\x00\x00\x00\x01\x02\x03" + linkA + sigA,
		"a place in two":                 "\x01\x02\x03" + linkA + sigA,
		"From 7":                         "\x00\x00\x01\x02\x07" + linkA + sigA,
		"From 8":                         "\x00\x00\x01\x02\x08" + linkA + sigA,
		"From 255":                       "\x00\x00\x01\x02\xff" + linkA + sigA,
		"From in four":                   "\x00\x00\x01\x02\x00\x00\x00\x03" + linkA + sigA,
		"From ahead":                     "\x03\x00\x00\x01\x02" + linkA + sigA,
		"a text that is signed":          "VOTE" + linkA + "\x00\x00\x01\x02" + linkA,
		"two votes":                      head + sigA + head + sigA,
	} {
		nothing(t, name, []byte(b))
		if _, ok := plainGet([]byte(b)); ok {
			t.Errorf("%s: a test that is wrong", name)
		}
	}
	nothing(t, "nil", nil)
	for _, c := range []byte{0, 1, 3, 255} {
		nothing(t, "a million alike", bytes.Repeat([]byte{c}, 1<<20))
	}
}

// Promise 13.2: each byte of some, in all that it may be.
func TestGetOfEachByte(t *testing.T) {
	for _, v := range []api.Vote{{}, some(), {Place: api.MaxPlace, From: 6, Link: hashOf(1), Sig: make([]byte, 256)}} {
		b := put(t, v)
		for at := range b {
			was := b[at]
			for c := range 256 {
				b[at] = byte(c)
				alike(t, b)
			}
			b[at] = was
		}
	}
}

// Promise 13.2: bytes of Put that are cut, longer, twice, or with a byte left out, doubled or turned.
func TestGetOfTurnedBytes(t *testing.T) {
	chance := rand.New(rand.NewSource(144))
	for range 60 {
		v := randomVote(chance)
		v.Sig = v.Sig[:min(len(v.Sig), 80)]
		b := put(t, v)
		for n := range b {
			nothing(t, "cut", b[:n])
			alike(t, b[n:])
			alike(t, slices.Concat(b[:n], b[n+1:]))
			alike(t, slices.Concat(b[:n+1], b[n:]))
			for range 4 {
				other := slices.Clone(b)
				other[n] = byte(chance.Intn(256))
				other[chance.Intn(len(b))] = byte(chance.Intn(9))
				alike(t, other)
			}
		}
		for c := range 256 {
			nothing(t, "longer", append(b[:len(b):len(b)], byte(c)))
		}
		nothing(t, "twice", slices.Concat(b, b))
	}
}

// Promise 13.2: bytes by chance, of which some are a vote's.
func TestGetOfChance(t *testing.T) {
	chance := rand.New(rand.NewSource(145))
	taken := 0
	for range 20000 {
		size := chance.Intn(60)
		b := randomBytes(chance, 41+size)
		copy(b, []byte{0, byte(chance.Intn(18)), byte(chance.Intn(3)), 0, byte(chance.Intn(9))})
		copy(b[37:], []byte{0, 0, 0, byte(size + chance.Intn(8)/7)})
		if chance.Intn(4) == 0 {
			b = b[:chance.Intn(len(b)+1)]
		}
		if alike(t, b) {
			taken++
		}
	}
	if taken < 5000 || taken > 15000 {
		t.Errorf("a test that asks too little: %d", taken)
	}
}

// Promise 13.2: they come back from their bytes, and no two have the same ones.
func TestTheyComeBack(t *testing.T) {
	chance := rand.New(rand.NewSource(146))
	seen := map[string]api.Vote{}
	for range 3000 {
		v := randomVote(chance)
		b := put(t, v)
		if back := get(t, b); !sameParts(back, v) || !Same(back, v) {
			t.Fatalf("%v: %v", v, back)
		}
		if other, ok := seen[string(b)]; ok && !sameParts(other, v) {
			t.Fatalf("%v and %v: %x", v, other, b)
		}
		seen[string(b)] = v
	}
}

// Promise 13.2 (and rule 2): what is answered is the caller's own, and what is handed in is not changed.
func TestTheyShareNothing(t *testing.T) {
	v := some()
	v.Sig = append(v.Sig, "behind it"...)[:len(v.Sig)]
	first, second := put(t, v), put(t, v)
	clear(first[:cap(first)])
	if !bytes.Equal(second, plainPut(some())) || !sameParts(v, some()) || string(v.Sig[:15]) != "signedbehind it" {
		t.Error("two answers of Put share bytes, or bytes with what is handed in")
	}
	b := append(plainPut(some()), "behind it"...)
	in := b[:len(b)-9]
	answer, other := get(t, in), get(t, in)
	if string(b) != string(plainPut(some()))+"behind it" {
		t.Error("Get changes what is handed in")
	}
	clear(b)
	if !sameParts(answer, some()) {
		t.Errorf("Get keeps what was handed in: %v", answer)
	}
	clear(answer.Sig[:cap(answer.Sig)])
	if !sameParts(other, some()) {
		t.Errorf("two answers of Get share something: %v", other)
	}
}

// partTurns change one part of some vote.
func partTurns() map[string]func(v *api.Vote) {
	turns := map[string]func(v *api.Vote){
		"Place":               func(v *api.Vote) { v.Place++ },
		"Place by 2^32":       func(v *api.Vote) { v.Place += 1 << 32 },
		"Place below 0":       func(v *api.Vote) { v.Place = -v.Place },
		"From":                func(v *api.Vote) { v.From++ },
		"From by 256":         func(v *api.Vote) { v.From += 256 },
		"From below 0":        func(v *api.Vote) { v.From = -v.From },
		"Place and From":      func(v *api.Vote) { v.Place, v.From = v.From, v.Place },
		"no link":             func(v *api.Vote) { v.Link = api.Hash{} },
		"no signature":        func(v *api.Vote) { v.Sig = nil },
		"a signature, cut":    func(v *api.Vote) { v.Sig = v.Sig[:5] },
		"a signature, longer": func(v *api.Vote) { v.Sig = append(v.Sig, 0) },
		"a signature's head":  func(v *api.Vote) { v.Sig[0] ^= 1 },
		"a signature's tail":  func(v *api.Vote) { v.Sig[5] ^= 128 },
		"nothing":             func(v *api.Vote) { *v = api.Vote{} },
	}
	for at := range 32 {
		turns["byte "+string(rune('A'+at))+" of the link"] = func(v *api.Vote) { v.Link[at] ^= 1 << (at % 8) }
	}
	return turns
}

// Promise 13.2: in all parts, whatever they are.
func TestSame(t *testing.T) {
	all := map[string]api.Vote{"as it is": some()}
	for name, turn := range partTurns() {
		v := some()
		turn(&v)
		all[name] = v
	}
	for name, v := range all {
		for other, w := range all {
			if Same(v, w) != (name == other) || Same(v, copyVote(w)) != (name == other) {
				t.Errorf("%s, %s", name, other)
			}
		}
	}
	none, empty := some(), some()
	none.Sig, empty.Sig = nil, make([]byte, 0, 9)
	if !Same(none, empty) || !Same(empty, none) || !Same(api.Vote{}, api.Vote{Sig: []byte{}}) {
		t.Error("nil and empty")
	}
	long := some()
	long.Sig = make([]byte, 1<<20)
	other := copyVote(long)
	if !Same(long, other) {
		t.Error("long signatures")
	}
	other.Sig[1<<20-1] = 1
	if Same(long, other) {
		t.Error("the last byte of long signatures")
	}
}

// Promise 13.2: two are the same just where the library says so, and just where Put makes the same bytes of them.
func TestSameOfChance(t *testing.T) {
	chance := rand.New(rand.NewSource(147))
	few := func() api.Vote {
		return api.Vote{Place: chance.Intn(2), From: chance.Intn(2), Link: api.Hash{31: byte(chance.Intn(2))}, Sig: make([]byte, chance.Intn(2))}
	}
	alike := 0
	for range 2000 {
		a, b := few(), few()
		if Same(a, b) != sameParts(a, b) || Same(a, b) != bytes.Equal(put(t, a), put(t, b)) {
			t.Fatalf("%v, %v", a, b)
		}
		if Same(a, b) {
			alike++
		}
	}
	if alike < 50 {
		t.Errorf("a test that asks too little: %d", alike)
	}
}
