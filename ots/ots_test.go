package ots

import (
	"bytes"
	"encoding/hex"
	"math"
	"math/rand"
	"slices"
	"testing"

	"chirograph/api"
)

// otherWidths are none of 1, 2, 4, 8.
var otherWidths = []int{0, 3, 5, 6, 7, 9, 16, 32, -1, -8, 256 + 1, 1<<32 + 2, math.MaxInt, math.MinInt}

// otherLeaves are none of 0 to 31.
var otherLeaves = []int{-1, -32, 32, 33, 256, 1 << 16, 1 << 32, math.MaxInt, math.MinInt}

func secret(seed int64) api.Secret {
	var s api.Secret
	chance := rand.New(rand.NewSource(seed))
	chance.Read(s.I[:])
	chance.Read(s.Seed[:])
	return s
}

func unhex(t *testing.T, text string) []byte {
	t.Helper()
	b, err := hex.DecodeString(text)
	if err != nil {
		t.Fatal(err)
	}
	return b
}

func known(t *testing.T, i, seed string) api.Secret {
	t.Helper()
	return api.Secret{I: [16]byte(unhex(t, i)), Seed: api.Hash(unhex(t, seed))}
}

// signed signs with what is a leaf and a width.
func signed(t *testing.T, s api.Secret, q, w int, msg []byte) []byte {
	t.Helper()
	sig, e := Sign(s, q, w, msg)
	if e != api.OK {
		t.Fatalf("Sign with q %d, w %d: error %d", q, w, e)
	}
	return sig
}

func public(t *testing.T, s api.Secret, q, w int) api.Hash {
	t.Helper()
	h, e := Public(s, q, w)
	if e != api.OK {
		t.Fatalf("Public with q %d, w %d: error %d", q, w, e)
	}
	return h
}

// refused holds that there is that error, and nothing beside it.
func refused(t *testing.T, what string, h api.Hash, e, want int) {
	t.Helper()
	if e != want || h != (api.Hash{}) {
		t.Errorf("%s: error %d and %x, want error %d alone", what, e, h, want)
	}
}

// Promise 3.1.
func TestTypes(t *testing.T) {
	first := Types()
	if !slices.Equal(first, []int{1, 2, 4, 8}) {
		t.Fatalf("%v", first)
	}
	clear(first[:cap(first)])
	if got := Types(); !slices.Equal(got, []int{1, 2, 4, 8}) {
		t.Errorf("once the answer was changed: %v", got)
	}
}

// Promise 3.1.
func TestChains(t *testing.T) {
	for _, k := range plainKinds {
		if got := Chains(k.w); got != k.p {
			t.Errorf("Chains(%d): %d, want %d", k.w, got, k.p)
		}
	}
	for _, w := range otherWidths {
		if got := Chains(w); got != 0 {
			t.Errorf("Chains(%d): %d", w, got)
		}
	}
}

// Promise 3.2: digests whose digits can be told by hand.
func TestDigitsByHand(t *testing.T) {
	var none, all, some api.Hash
	for i := range all {
		all[i] = 0xff
	}
	copy(some[:], []byte{0x12, 0x34, 0x56, 0x78, 0x9a, 0xbc, 0xde, 0xf0})
	for _, k := range []struct {
		w     int
		h     api.Hash
		begin []int // the first digits
		sum   []int // the checksum's
	}{
		{1, none, []int{0, 0}, []int{1, 0, 0, 0, 0, 0, 0, 0, 0}},                                  // 256
		{1, all, []int{1, 1}, []int{0, 0, 0, 0, 0, 0, 0, 0, 0}},                                   // 0
		{2, none, []int{0, 0}, []int{1, 2, 0, 0, 0}},                                              // 384
		{2, all, []int{3, 3}, []int{0, 0, 0, 0, 0}},                                               // 0
		{4, none, []int{0, 0}, []int{3, 12, 0}},                                                   // 960
		{4, all, []int{15, 15}, []int{0, 0, 0}},                                                   // 0
		{8, none, []int{0, 0}, []int{31, 224}},                                                    // 8160
		{8, all, []int{255, 255}, []int{0, 0}},                                                    // 0
		{1, some, []int{0, 0, 0, 1, 0, 0, 1, 0, 0, 0, 1, 1}, []int{0, 1, 1, 1, 0, 0, 0, 0, 0}},    // 256 - 32
		{2, some, []int{0, 1, 0, 2, 0, 3, 1, 0}, []int{1, 1, 1, 0, 0}},                            // 384 - 48
		{4, some, []int{1, 2, 3, 4, 5, 6, 7, 8, 9, 10, 11, 12, 13, 14, 15, 0, 0}, []int{3, 4, 8}}, // 960 - 120
		{8, some, []int{18, 52, 86, 120, 154, 188, 222, 240, 0}, []int{27, 168}},                  // 8160 - 1080
	} {
		got, e := Digits(k.w, k.h)
		if e != api.OK || len(got) != Chains(k.w) {
			t.Fatalf("w %d: error %d, %d digits", k.w, e, len(got))
		}
		if !slices.Equal(got[:len(k.begin)], k.begin) {
			t.Errorf("w %d, %x: begins with %v, want %v", k.w, k.h, got[:len(k.begin)], k.begin)
		}
		if sum := got[256/k.w:]; !slices.Equal(sum, k.sum) {
			t.Errorf("w %d, %x: checksum %v, want %v", k.w, k.h, sum, k.sum)
		}
	}
}

// Promise 3.2: as the plain ones, of digests of every kind.
func TestDigitsAsPlain(t *testing.T) {
	chance := rand.New(rand.NewSource(1))
	for _, k := range plainKinds {
		for round := range 600 {
			var h api.Hash
			switch {
			case round < 256:
				h[round/8] = 1 << (round % 8)
			case round < 400:
				for i := range h {
					h[i] = 0xff
				}
				h[round%32] ^= byte(round)
			default:
				chance.Read(h[:])
			}
			got, e := Digits(k.w, h)
			if want := plainDigits(k, h); e != api.OK || !slices.Equal(got, want) {
				t.Fatalf("w %d, %x: error %d, %v, want %v", k.w, h, e, got, want)
			}
		}
	}
}

// Promise 3.2: of two digests, neither one's digits are all as far along as the other's; who has a signature can't go on to another.
func TestNoDigestIsAheadOfAnother(t *testing.T) {
	chance := rand.New(rand.NewSource(2))
	for _, k := range plainKinds {
		for range 500 {
			var a api.Hash
			chance.Read(a[:])
			b := a
			b[chance.Intn(len(b))] ^= byte(1 + chance.Intn(255))
			x, _ := Digits(k.w, a)
			y, _ := Digits(k.w, b)
			less, more := false, false
			for i := range x {
				less = less || x[i] < y[i]
				more = more || x[i] > y[i]
			}
			if !less || !more {
				t.Fatalf("w %d: %x and %x", k.w, a, b)
			}
		}
	}
}

// Promise 3.2: other widths, and an answer that is the caller's own.
func TestDigitsEdges(t *testing.T) {
	for _, w := range otherWidths {
		if got, e := Digits(w, api.Hash{1}); e != api.ErrArg || len(got) != 0 {
			t.Errorf("w %d: error %d, %v", w, e, got)
		}
	}
	for _, k := range plainKinds {
		first, _ := Digits(k.w, api.Hash{7})
		second, _ := Digits(k.w, api.Hash{7})
		clear(first[:cap(first)])
		third, _ := Digits(k.w, api.Hash{7})
		if want := plainDigits(k, api.Hash{7}); !slices.Equal(second, want) || !slices.Equal(third, want) {
			t.Errorf("w %d: answers share digits", k.w)
		}
	}
}

// Promises 3.3, 3.4: the RFC's own signature: made anew, and leading to the RFC's public key.
func TestOfTheRFC(t *testing.T) {
	s := known(t, rfcI, rfcSeed)
	want := unhex(t, rfcSig)
	if got := signed(t, s, rfcLeaf, 8, []byte(rfcText)); !bytes.Equal(got, want) {
		t.Errorf("another signature than the RFC's")
	}
	k, e := Candidate(s.I, rfcLeaf, 8, []byte(rfcText), want)
	if e != api.OK {
		t.Fatalf("error %d", e)
	}
	if k != public(t, s, rfcLeaf, 8) {
		t.Error("the candidate isn't the public key")
	}
	node := api.Leaves + rfcLeaf
	x := plainHash(s.I[:], plain32(node), []byte{0x82, 0x82}, k[:])
	for path := unhex(t, rfcPath); node > 1; path = path[32:] {
		left, right := x[:], path[:32]
		if node%2 == 1 {
			left, right = right, left
		}
		node /= 2
		x = plainHash(s.I[:], plain32(node), []byte{0x83, 0x83}, left, right)
	}
	if !bytes.Equal(x[:], unhex(t, rfcRoot)) {
		t.Errorf("it leads to the root %x", x)
	}
}

// Promise 3.3: keys, and digests of signatures, as another implementation of the RFC (Bouncy Castle's) makes them.
func TestOfAnother(t *testing.T) {
	s := known(t, "d08fabd4a2091ff0a8cb4ed834e74534", "558b8966c48ae9cb898b423c83443aae014a72f1b1ab5cc85cf1d892903b5439")
	msg := []byte("The powers not delegated to the United States")
	for _, k := range []struct {
		w, q   int
		public string
		size   int
		digest string
	}{
		{1, 0, "521121ce81c506ff84e63c7062ce019144d7d6e7e95577d4bff8be8f3bf74b8a", 8516, "c28f0c86f3bac09dae8b60f998362be7990838b0047488f6c6571c614ead85b0"},
		{1, 1, "bb04b31e20562d69e0ad43022b8c0590eee3506d74eaabb7a271f3bb513cc669", 8516, "1ec7f7a1051626d67c71f8a3f81b873d75c3ada81a1429b4b013f900d901a7a1"},
		{1, 31, "fe678f0d3ce57de1d45a0b7caaa4499f9faec0cef474114a503b6e1928182d33", 8516, "86c0febf88a69ca1e1532bc4cbead5013abf11c483a337c8ce00d469ad300c5e"},
		{2, 0, "4c6881cbe1119de5d282f5c14674ce786b7eff56bd74c806ea625ab23b1bda36", 4292, "ec9c14f42b76e41d093188ffb2791ef1c1dfc65c52990c7a1b998f56e9c3fe6d"},
		{2, 5, "37d256d58b569573ef9e8cf646a87d2b929f84fcf33b032c2d591cf0b4960a23", 4292, "b897a340bf2365a4a543cd3570894fff13778d14323047d78117aefb848a9ada"},
		{2, 31, "8815eccbf5edbfff093ff27e40e603f9a56421d64c8b7e33c34644acdc8ff4eb", 4292, "6d247c0dd99f38331f60d04a950da183bfa5ee9d196fb917b4243b0f4c5dfa55"},
		{4, 0, "9ce7087d0fbeb1fb2bd459a15038a0d7c98ca1748f98bbcb53cd55f6cacf6553", 2180, "4ec1668067d4081ab984042c778b95431daeae1873b1324e3a4a756b997c1d65"},
		{4, 5, "39cdd3ac94d648be37f6c7c1d24479297c26456da70ba9eed8f1ce468bc4f3e1", 2180, "8d25002e786df14e020d797fc6247500adcee3013753c316bfcab51f0028c71e"},
		{4, 31, "5082cce2d210cad0f2da2ff7b9cf48a4a969221b74c2c150282f9e9d90c7c754", 2180, "1fd50f54d16944be17ab0c6e51a5a1ad0157a248dff458db2aeb7ecebab6d92b"},
		{8, 0, "e72a458115eee2f579e98271ff3da45bcc030b980d2f99b2dc5d911814dc24bb", 1124, "71de1ef32e63b723a81263d1d8ed9da3b01718873ec483a98674f7083685e251"},
		{8, 1, "aa2fbb0e8e5364d746bd4e8aefc4e0d20994b38c8fb446f9aabdb1958b5a2b7d", 1124, "f7fd25e1bc954ce91e6bbbd9d143c012b73d278308c8393055bd9b3f6671b375"},
		{8, 31, "839c1e7beee529cc4942e68c98f1c781a2f2086e43163e91cce5e7638fd0c860", 1124, "da9f31f1a2df24d199a7a3f66807c589ff9e722eb465d2d074d8d8c92151c49b"},
	} {
		if h := public(t, s, k.q, k.w); hex.EncodeToString(h[:]) != k.public {
			t.Errorf("w %d, q %d: public key %x", k.w, k.q, h)
		}
		sig := signed(t, s, k.q, k.w, msg)
		if h := plainHash(sig); len(sig) != k.size || hex.EncodeToString(h[:]) != k.digest {
			t.Errorf("w %d, q %d: signature of %d bytes, digest %x", k.w, k.q, len(sig), h)
		}
	}
}

// Promise 3.3: as the plain ones, of any secret, leaf and message.
func TestAsPlain(t *testing.T) {
	chance := rand.New(rand.NewSource(3))
	for _, k := range plainKinds {
		for round, q := range []int{0, 1, 2, 15, 16, 30, 31} {
			s := secret(int64(round))
			msg := make([]byte, []int{0, 1, 9, 10, 73, 74, 1000}[round]) // blocks end at 64 bytes, 54 of which stand ahead of it
			chance.Read(msg)
			if public(t, s, q, k.w) != plainPublic(s, q, k) {
				t.Errorf("w %d, q %d: public key", k.w, q)
			}
			if !bytes.Equal(signed(t, s, q, k.w, msg), plainSign(s, q, k, msg)) {
				t.Errorf("w %d, q %d, %d bytes: signature", k.w, q, len(msg))
			}
		}
	}
}

// Promise 3.3: secrets of zeros are secrets too.
func TestZeroSecret(t *testing.T) {
	var s api.Secret
	for _, k := range plainKinds {
		if public(t, s, 0, k.w) != plainPublic(s, 0, k) || !bytes.Equal(signed(t, s, 0, k.w, nil), plainSign(s, 0, k, nil)) {
			t.Errorf("w %d", k.w)
		}
	}
}

// Promise 3.3: ErrArg of other widths and leaves, beside nothing.
func TestOtherWidthsAndLeaves(t *testing.T) {
	s := secret(4)
	held := func(q, w int) {
		h, e := Public(s, q, w)
		refused(t, "Public", h, e, api.ErrArg)
		if sig, e := Sign(s, q, w, []byte("m")); e != api.ErrArg || len(sig) != 0 {
			t.Errorf("Sign with q %d, w %d: error %d, %d bytes", q, w, e, len(sig))
		}
		for _, k := range plainKinds { // ahead of what is wrong with a signature, and beside one that fits
			for _, sig := range [][]byte{nil, {1}, signed(t, s, 0, k.w, []byte("m"))} {
				h, e := Candidate(s.I, q, w, []byte("m"), sig)
				refused(t, "Candidate", h, e, api.ErrArg)
			}
		}
	}
	for _, w := range otherWidths {
		held(0, w)
		held(31, w)
		held(-1, w)
	}
	for _, q := range otherLeaves {
		for _, w := range Types() {
			held(q, w)
		}
	}
}

// Promise 3.3: a nil message is an empty one; the same arguments, the same bytes; answers and arguments stay apart.
func TestSignSharesNothing(t *testing.T) {
	s := secret(5)
	for _, w := range Types() {
		if !bytes.Equal(signed(t, s, 3, w, nil), signed(t, s, 3, w, []byte{})) {
			t.Errorf("w %d: nil", w)
		}
		msg := []byte("message")
		first := signed(t, s, 3, w, msg)
		kept := bytes.Clone(first)
		second := signed(t, s, 3, w, msg)
		clear(second[:cap(second)])
		if !bytes.Equal(first, kept) || !bytes.Equal(signed(t, s, 3, w, msg), kept) {
			t.Errorf("w %d: two answers share bytes", w)
		}
		if _, e := Candidate(s.I, 3, w, msg, first); e != api.OK {
			t.Errorf("w %d: error %d", w, e)
		}
		if string(msg) != "message" || !bytes.Equal(first, kept) {
			t.Errorf("w %d: what was handed in is changed", w)
		}
	}
}

// Promise 3.3: other secrets, leaves and widths have other keys; a leaf's C is its own.
func TestKeysDiffer(t *testing.T) {
	keys, starts := map[api.Hash]int{}, map[api.Hash]int{}
	n := 0
	s := secret(6)
	otherI, otherSeed := s, s
	otherI.I[15] ^= 1
	otherSeed.Seed[31] ^= 1
	for _, w := range []int{1, 2, 4} {
		for _, s := range []api.Secret{s, otherI, otherSeed} {
			for q := range api.Leaves {
				keys[public(t, s, q, w)]++
				starts[api.Hash(signed(t, s, q, w, nil)[4:36])]++
				n++
			}
		}
	}
	if len(keys) != n || len(starts) != n/3 { // C doesn't hang on the width
		t.Errorf("%d keys, %d times C, of %d", len(keys), len(starts), n)
	}
}

// Promise 3.4: ErrSig, unless there are just the bytes of a signature.
func TestCandidateOfOtherLengths(t *testing.T) {
	s := secret(7)
	for _, k := range plainKinds {
		sig := signed(t, s, 8, k.w, []byte("m"))
		if len(sig) != k.size() {
			t.Fatalf("w %d: %d bytes", k.w, len(sig))
		}
		long := append(bytes.Clone(sig), make([]byte, 70)...)
		for _, n := range []int{0, 1, 3, 4, 5, 35, 36, 68, k.size() - 33, k.size() - 32, k.size() - 1, k.size() + 1, k.size() + 32, k.size() + 70} {
			h, e := Candidate(s.I, 8, k.w, []byte("m"), long[:n])
			refused(t, "a signature of another length", h, e, api.ErrSig)
		}
		h, e := Candidate(s.I, 8, k.w, []byte("m"), nil)
		refused(t, "nil", h, e, api.ErrSig)
		h, e = Candidate(s.I, 8, k.w, []byte("m"), make([]byte, k.size()))
		refused(t, "zeros", h, e, api.ErrSig)
	}
}

// Promise 3.4: ErrSig of another typecode, even where the length is right.
func TestCandidateOfOtherTypes(t *testing.T) {
	s := secret(8)
	for _, k := range plainKinds {
		sig := signed(t, s, 9, k.w, []byte("m"))
		if !bytes.Equal(sig[:4], plain32(k.code)) {
			t.Fatalf("w %d: typecode %x", k.w, sig[:4])
		}
		for bit := range 32 {
			turned := bytes.Clone(sig)
			turned[bit/8] ^= 1 << (bit % 8)
			h, e := Candidate(s.I, 9, k.w, []byte("m"), turned)
			refused(t, "a turned typecode", h, e, api.ErrSig)
		}
		for code := range 7 {
			if code != k.code {
				other := append(plain32(code), sig[4:]...)
				h, e := Candidate(s.I, 9, k.w, []byte("m"), other)
				refused(t, "another typecode", h, e, api.ErrSig)
			}
		}
		for _, other := range plainKinds {
			if other.w != k.w {
				h, e := Candidate(s.I, 9, other.w, []byte("m"), sig)
				refused(t, "another width", h, e, api.ErrSig)
			}
		}
	}
}

// Promise 3.4: of any bytes of the form there is a candidate, and it is the plain one.
func TestCandidateOfAnyBytes(t *testing.T) {
	chance := rand.New(rand.NewSource(9))
	for _, k := range plainKinds {
		s := secret(9)
		sig := make([]byte, k.size())
		chance.Read(sig)
		copy(sig, plain32(k.code))
		kept := bytes.Clone(sig)
		msg := []byte("any")
		digits := plainDigits(k, plainHash(s.I[:], plain32(17), []byte{0x81, 0x81}, sig[4:36], msg))
		all := append(append(s.I[:], plain32(17)...), 0x80, 0x80)
		for chain, digit := range digits {
			end := plainWalk(s, 17, chain, digit, 1<<k.w-1, api.Hash(sig[36+32*chain:]))
			all = append(all, end[:]...)
		}
		got, e := Candidate(s.I, 17, k.w, msg, sig)
		if e != api.OK || got != plainHash(all) {
			t.Errorf("w %d: error %d, %x", k.w, e, got)
		}
		if !bytes.Equal(sig, kept) {
			t.Errorf("w %d: the signature is changed", k.w)
		}
	}
}

// Promise 3.5: the candidate of a signature is the public key, of every leaf.
func TestCandidateIsThePublicKey(t *testing.T) {
	chance := rand.New(rand.NewSource(10))
	for _, w := range Types() {
		s := secret(int64(w))
		for q := range api.Leaves {
			msg := make([]byte, chance.Intn(200))
			chance.Read(msg)
			got, e := Candidate(s.I, q, w, msg, signed(t, s, q, w, msg))
			if e != api.OK || got != public(t, s, q, w) {
				t.Errorf("w %d, q %d: error %d, %x", w, q, e, got)
			}
		}
	}
}

// Promise 3.5, T1: a signature is none for another message, leaf or tree.
func TestCandidateOfOtherThings(t *testing.T) {
	for _, w := range Types() {
		s := secret(11)
		sig := signed(t, s, 20, w, []byte("message"))
		key := public(t, s, 20, w)
		other := s
		other.I[0] ^= 0x80
		differs := func(what string, i [16]byte, q int, msg string) {
			got, e := Candidate(i, q, w, []byte(msg), sig)
			if e != api.OK || got == key {
				t.Errorf("w %d, %s: error %d, %x", w, what, e, got)
			}
		}
		differs("a turned message", s.I, 20, "messagf")
		differs("a shorter message", s.I, 20, "messag")
		differs("a longer message", s.I, 20, "message\x00")
		differs("no message", s.I, 20, "")
		differs("another leaf", s.I, 21, "message")
		differs("another tree", other.I, 20, "message")
	}
}

// Promise 3.5, T1: a signature of which a byte was turned has another candidate.
func TestCandidateOfTurnedBytes(t *testing.T) {
	for _, k := range plainKinds {
		s := secret(12)
		msg := []byte("message")
		sig := signed(t, s, 31, k.w, msg)
		key := public(t, s, 31, k.w)
		for at := 4; at < len(sig); at += 31 { // each chain's value is turned at least once
			turned := bytes.Clone(sig)
			turned[at] ^= 1 << (at % 8)
			if got, e := Candidate(s.I, 31, k.w, msg, turned); e != api.OK || got == key {
				t.Fatalf("w %d, byte %d: error %d, %x", k.w, at, e, got)
			}
		}
	}
}

// Promises 3.3, 3.5, T4: what is asked in between changes nothing: a call hangs on its arguments alone.
func TestCallsHangOnArgumentsAlone(t *testing.T) {
	s := secret(13)
	key, sig := public(t, s, 6, 2), signed(t, s, 6, 2, []byte("a"))
	signed(t, s, 6, 2, []byte("b"))
	signed(t, s, 7, 8, []byte("a"))
	Candidate(s.I, 6, 2, []byte("b"), sig)
	if public(t, s, 6, 2) != key || !bytes.Equal(signed(t, s, 6, 2, []byte("a")), sig) {
		t.Error("the second time it is another")
	}
}
