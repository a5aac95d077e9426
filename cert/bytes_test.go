package cert

import (
	"bytes"
	"math/rand"
	"slices"
	"strings"
	"testing"

	"chirograph/api"
	"chirograph/sha"
)

const (
	linkA = "\x01\x02\x03\x04\x05\x06\x07\x08\x09\x0a\x0b\x0c\x0d\x0e\x0f\x10\x11\x12\x13\x14\x15\x16\x17\x18\x19\x1a\x1b\x1c\x1d\x1e\x1f\x20"
	linkB = "\x80\x81\x82\x83\x84\x85\x86\x87\x88\x89\x8a\x8b\x8c\x8d\x8e\x8f\x90\x91\x92\x93\x94\x95\x96\x97\x98\x99\x9a\x9b\x9c\x9d\x9e\x9f"
	noSig = "\x00\x00\x00\x00"

	voteA = "\x00\x00\x00\x2f" + "\x00\x00\x01\x02\x03" + linkA + "\x00\x00\x00\x06signed"
	voteB = "\x00\x00\x00\x29" + "\x00\x00\x00\x00\x00" + linkB + noSig
	voteC = "\x00\x00\x00\x30" + "\x00\x10\x00\x00\x06" + linkA + "\x00\x00\x00\x07as well"
)

// Promise 14.3: the bytes of some, written out.
func TestPutBytes(t *testing.T) {
	l := some()
	long := api.Vote{Place: 1, From: 1, Link: hashOf(1), Sig: bytes.Repeat([]byte{7}, 9000)}
	longBytes := "\x00\x00\x23\x51" + "\x00\x00\x00\x01\x01" + linkA + "\x00\x00\x23\x28" + string(long.Sig)
	for _, k := range []struct {
		name string
		l    []api.Vote
		want string
	}{
		{"none", nil, "\x00"},
		{"an empty list", []api.Vote{}, "\x00"},
		{"one", l[:1], "\x01" + voteA},
		{"one of nothing", []api.Vote{{}}, "\x01\x00\x00\x00\x29" + strings.Repeat("\x00", 41)},
		{"two", l[:2], "\x02" + voteA + voteB},
		{"three", l, "\x03" + voteA + voteB + voteC},
		{"in another order", []api.Vote{l[2], l[0], l[1]}, "\x03" + voteC + voteA + voteB},
		{"one twice", []api.Vote{l[1], l[0], l[1]}, "\x03" + voteB + voteA + voteB},
		{"seven alike", slices.Repeat(l[:1], 7), "\x07" + strings.Repeat(voteA, 7)},
		{"seven", slices.Concat(l, l, l[2:]), "\x07" + voteA + voteB + voteC + voteA + voteB + voteC + voteC},
		{"seven of the longest", slices.Repeat([]api.Vote{long}, 7), "\x07" + strings.Repeat(longBytes, 7)},
	} {
		if b := put(t, k.l); string(b) != k.want {
			t.Errorf("%s: Put: %x, want %x", k.name, b, k.want)
		}
		if l := get(t, []byte(k.want)); !sameVotes(l, k.l) {
			t.Errorf("%s: Get: %v", k.name, l)
		}
	}
}

// Promise 14.3: up to seven, and no more.
func TestPutOfHowMany(t *testing.T) {
	for _, many := range []int{0, 1, 2, 3, 4, 5, 6, 7, 8, 9, 10, 15, 16, 100, 255, 256, 257, 260, 263, 264, 65536, 65540, 1 << 20} {
		l := slices.Repeat(some()[:1], many)
		if many <= 7 {
			put(t, l)
		} else {
			unput(t, "too many", l)
		}
	}
}

// Promise 14.3 (13.2): each vote may be put, at each place of the list, or nothing of it is.
func TestPutOfWrongVotes(t *testing.T) {
	for _, many := range []int{1, 2, 5, 7} {
		for at := range many {
			for _, n := range append(edges(), 2, 3, 4, 5, 6, 7) {
				l := slices.Repeat(some()[:1], many)
				l[at].Place = n
				putWhere(t, n >= 0 && n <= 1<<20, l)
				l = slices.Repeat(some()[:1], many)
				l[at].From = n
				putWhere(t, n >= 0 && n <= 6, l)
			}
			for _, size := range []int{0, 1, 8684, 8999, 9000, 9001, 9002, 1<<16 + 1} {
				l := slices.Repeat(some()[:1], many)
				l[at].Sig = make([]byte, size)
				putWhere(t, size <= 9000, l)
				if size > 9000 {
					nothing(t, "a signature that is too long", plainPut(l))
				}
			}
		}
	}
	unput(t, "too many, and one that may not be put", append(slices.Repeat(some()[:1], 7), api.Vote{Place: -1}))
	unput(t, "all that may not be put", slices.Repeat([]api.Vote{{Place: -1, From: 7, Sig: make([]byte, 9001)}}, 7))
}

func putWhere(t *testing.T, may bool, l []api.Vote) {
	t.Helper()
	if may {
		if back := get(t, put(t, l)); !sameVotes(back, l) {
			t.Errorf("%v: %v", l, back)
		}
	} else {
		unput(t, "a vote that may not be put", l)
	}
}

// Promises 14.1 to 14.3: what is picked may be put, and holds when it is read.
func TestCertificatesComeBack(t *testing.T) {
	for _, g := range houses() {
		all := castAll(g, 7, hashOf(1), upTo(len(g.Keys)))
		l, _ := Pick(g, 7, hashOf(1), all)
		back := get(t, put(t, l))
		if !sameVotes(back, all[:plainNeed(g)]) {
			t.Errorf("F %d: %v", g.F, froms(back))
		}
		checked(t, "read", g, 7, hashOf(1), back, api.OK)
		back = get(t, put(t, all))
		slices.Reverse(back)
		picked(t, "all, read", g, 7, hashOf(1), back, l)
	}
}

// Promise 14.3: what another program (chapters 3, 4, 10, 13, 14 in another language) makes of the replicas' secrets: certificates' bytes, by their digests.
func TestOfAnother(t *testing.T) {
	for _, k := range []struct {
		f, place  int
		who       []int
		leaf      int
		size      int
		want      string
		otherwise bool
	}{
		{0, 1, []int{0}, 0, 8730, "7a33b19a7ec92cb4e6a462caf74805a52a094892a1efe449ca5dbe23af1a0154", false},
		{1, 1, []int{0, 1, 2}, 0, 15628, "caf1469d73c35b29ff768136529f142613074bdcef6d78669369cba20f10a750", false},
		{1, 258, []int{0, 2, 3}, 7, 12460, "598ed4738cbb30fe51fb13a094952cb325fe7f5d268b5a168d0200ac2ee244a6", false},
		{1, api.MaxPlace, []int{1, 2, 3}, 31, 8236, "311e77fa55e268ceed602c9374ae5ddff174397cd6d0b85620209072944c0e5f", false},
		{2, 2, []int{0, 1, 2, 3, 4}, 5, 25694, "afc3a15d1d66f53d938126a66adfd0361ef15f78a8510dfa606f9b77f44428aa", false},
		{2, 65536, []int{2, 3, 4, 5, 6}, 30, 19358, "f5f5a27a04f13f239fe270e768b47af4c3c51e4b1045c7596a93514ee5fa62d6", false},
		{2, api.MaxPlace - 1, []int{0, 1, 2, 3, 4, 5, 6}, 1, 32592, "1288c1ba8d734314e480cd382161339e4b6b1676cc3c275ef0f8a777bf062733", true},
	} {
		g := house(k.f)
		var l []api.Vote
		for _, from := range k.who {
			l = append(l, castBy(g, from, k.leaf, k.place, hashOf(1)))
		}
		b := put(t, l)
		if sha.Hex(sha.Sum(b)) != k.want || len(b) != k.size {
			t.Errorf("F %d, %v: %d bytes, %x", k.f, k.who, len(b), sha.Sum(b))
		}
		checked(t, "another's", g, k.place, hashOf(1), get(t, b), okWhere(!k.otherwise))
		picked(t, "another's", g, k.place, hashOf(1), get(t, b), l[:plainNeed(g)])
	}
}

// Promise 14.3: bytes that no Put makes, by their parts.
func TestGetWrong(t *testing.T) {
	head := "\x00\x00\x01\x02\x03" + linkA
	for name, b := range map[string]string{
		"nothing":                           "",
		"none, and a byte":                  "\x00\x00",
		"none, and one":                     "\x00" + voteA,
		"one that is not there":             "\x01",
		"one, without how many":             voteA,
		"one, told as two":                  "\x02" + voteA,
		"two, told as one":                  "\x01" + voteA + voteB,
		"two, told as three":                "\x03" + voteA + voteB,
		"two, told as none":                 "\x00" + voteA + voteB,
		"how many in two":                   "\x00\x01" + voteA,
		"how many in four":                  "\x00\x00\x00\x01" + voteA,
		"how many behind":                   voteA + "\x01",
		"a byte ahead":                      "\x00\x01" + voteA,
		"a byte behind":                     "\x01" + voteA + "\x00",
		"a byte between":                    "\x02" + voteA + "\x00" + voteB,
		"seven and one":                     "\x07" + strings.Repeat(voteA, 8),
		"eight":                             "\x08" + strings.Repeat(voteA, 8),
		"eight that are not there":          "\x08",
		"eight, told, of seven":             "\x08" + strings.Repeat(voteA, 7),
		"seven, told, of six":               "\x07" + strings.Repeat(voteA, 6),
		"16":                                "\x10" + strings.Repeat(voteA, 16),
		"255":                               "\xff" + strings.Repeat(voteA, 255),
		"256, told as none":                 "\x00" + strings.Repeat(voteA, 256),
		"257, told as one":                  "\x01" + strings.Repeat(voteA, 257),
		"no length":                         "\x01" + voteA[4:],
		"half a length":                     "\x01\x00\x00",
		"a length alone":                    "\x01\x00\x00\x00\x2f",
		"a length of one less":              "\x01\x00\x00\x00\x2e" + voteA[4:],
		"a length of one more":              "\x01\x00\x00\x00\x30" + voteA[4:],
		"a length of one more, and a byte":  "\x01\x00\x00\x00\x30" + voteA[4:] + "\x00",
		"a length of one less, and cut":     "\x01\x00\x00\x00\x2e" + voteA[4:len(voteA)-1],
		"a length of none":                  "\x01\x00\x00\x00\x00",
		"a length of none, and one":         "\x01\x00\x00\x00\x00" + voteA,
		"a length in two":                   "\x01\x00\x2f" + voteA[4:],
		"a length of 2^31":                  "\x01\x80\x00\x00\x2f" + voteA[4:],
		"a length of 2^32 - 1":              "\x01\xff\xff\xff\xff" + voteA[4:],
		"a length of both":                  "\x02\x00\x00\x00\x5c" + voteA[4:] + voteB,
		"two in one length":                 "\x01\x00\x00\x00\x5c" + voteA[4:] + voteB,
		"the second without its length":     "\x02" + voteA + voteB[4:],
		"the first one, cut":                "\x02" + voteA[:20] + voteB,
		"the last one, cut":                 "\x02" + voteA + voteB[:44],
		"a place of MaxPlace + 1":           "\x01\x00\x00\x00\x2f\x00\x10\x00\x01\x03" + linkA + "\x00\x00\x00\x06signed",
		"From 7":                            "\x01\x00\x00\x00\x2f\x00\x00\x01\x02\x07" + linkA + "\x00\x00\x00\x06signed",
		"From 7 as the second":              "\x02" + voteA + "\x00\x00\x00\x2f\x00\x00\x01\x02\x07" + linkA + "\x00\x00\x00\x06signed",
		"a signature's length of one less":  "\x01\x00\x00\x00\x2f" + head + "\x00\x00\x00\x05signed",
		"a signature's length of one more":  "\x01\x00\x00\x00\x2f" + head + "\x00\x00\x00\x07signed",
		"a signature's length over the end": "\x02\x00\x00\x00\x2f" + head + "\x00\x00\x00\x33signed" + voteB,
		"a signature of 9,001":              "\x01\x00\x00\x23\x52" + head + "\x00\x00\x23\x29" + strings.Repeat("s", 9001),
		"a million, told as one":            "\x01\x00\x0f\xff\xff" + strings.Repeat("\x00", 1<<20-1),
	} {
		nothing(t, name, []byte(b))
	}
	nothing(t, "nil", nil)
	for _, c := range []byte{0, 1, 7, 8, 255} {
		nothing(t, "a million alike", bytes.Repeat([]byte{c}, 1<<20))
	}
}

// Promise 14.3: each byte of some, in all that it may be.
func TestGetOfEachByte(t *testing.T) {
	for _, l := range [][]api.Vote{nil, some()[:1], some(), slices.Repeat(some()[1:2], 7)} {
		b := put(t, l)
		for at := range b {
			was := b[at]
			for c := range 256 {
				b[at] = byte(c)
				alike(t, b)
			}
			b[at] = was
		}
	}
}

// randomVotes may be put; their signatures are short.
func randomVotes(chance *rand.Rand) []api.Vote {
	var l []api.Vote
	for range chance.Intn(8) {
		v := api.Vote{Place: chance.Intn(1<<20+1) >> chance.Intn(21), From: chance.Intn(7), Sig: randomBytes(chance, chance.Intn(20))}
		chance.Read(v.Link[:])
		l = append(l, v)
	}
	return l
}

// Promise 14.3: bytes of Put that are cut, longer, twice, or with a byte left out, doubled or turned.
func TestGetOfTurnedBytes(t *testing.T) {
	chance := rand.New(rand.NewSource(152))
	for range 60 {
		b := put(t, randomVotes(chance))
		for n := range b {
			nothing(t, "cut", b[:n])
			alike(t, b[n:])
			alike(t, slices.Concat(b[:n], b[n+1:]))
			alike(t, slices.Concat(b[:n+1], b[n:]))
			other := slices.Clone(b)
			other[n] = byte(chance.Intn(256))
			other[chance.Intn(len(b))] = byte(chance.Intn(9))
			alike(t, other)
		}
		for c := range 256 {
			nothing(t, "longer", append(b[:len(b):len(b)], byte(c)))
		}
		nothing(t, "twice", slices.Concat(b, b))
	}
}

// Promise 14.3: they come back from their bytes, and no two lists have the same ones.
func TestTheyComeBack(t *testing.T) {
	chance := rand.New(rand.NewSource(153))
	seen := map[string][]api.Vote{}
	for range 3000 {
		l := randomVotes(chance)
		b := put(t, l)
		if back := get(t, b); !sameVotes(back, l) {
			t.Fatalf("%v: %v", l, back)
		}
		if other, ok := seen[string(b)]; ok && !sameVotes(other, l) {
			t.Fatalf("%v and %v: %x", l, other, b)
		}
		seen[string(b)] = l
	}
}

// Promise 14.3 (and rule 2): what is answered is the caller's own, and what is handed in is not changed.
func TestTheyShareNothing(t *testing.T) {
	l := some()
	l[0].Sig = append(l[0].Sig, "behind it"...)[:len(l[0].Sig)]
	l = append(l, api.Vote{From: 99})[:3]
	first, second := put(t, l), put(t, l)
	clear(first[:cap(first)])
	if !bytes.Equal(second, plainPut(some())) || !sameVotes(l, some()) || string(l[0].Sig[:15]) != "signedbehind it" || l[:4][3].From != 99 {
		t.Error("two answers of Put share bytes, or bytes with what is handed in")
	}
	b := append(plainPut(some()), "behind it"...)
	in := b[:len(b)-9]
	answer, other := get(t, in), get(t, in)
	if string(b) != string(plainPut(some()))+"behind it" {
		t.Error("Get changes what is handed in")
	}
	clear(b)
	if !sameVotes(answer, some()) {
		t.Errorf("Get keeps what was handed in: %v", answer)
	}
	for n := range answer {
		clear(answer[n].Sig[:cap(answer[n].Sig)])
		if !sameVotes(answer[n+1:], some()[n+1:]) {
			t.Error("two votes of an answer share bytes")
		}
	}
	clear(answer[:cap(answer)])
	if !sameVotes(other, some()) {
		t.Errorf("two answers of Get share something: %v", other)
	}
}
