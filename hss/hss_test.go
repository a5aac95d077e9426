package hss

import (
	"bytes"
	"encoding/hex"
	"math"
	"math/rand"
	"sync"
	"testing"

	"chirograph/api"
)

// otherWidths are none of 1, 2, 4, 8.
var otherWidths = []int{0, 3, 5, 6, 7, 9, 16, 32, -1, -2, -8, 256 + 1, 1<<32 + 2, math.MaxInt, math.MinInt}

// otherLevels are neither 1 nor 2.
var otherLevels = []int{0, 3, 4, 8, 32, -1, -2, 256 + 1, 1<<32 + 1, 1<<32 + 2, math.MaxInt, math.MinInt}

// edges are numbers at the ends of trees, by levels.
var edges = map[int][]int{1: {0, 1, 30, 31}, 2: {0, 1, 31, 32, 63, 64, 991, 992, 1023}}

func secret(seed int64) api.Secret {
	var s api.Secret
	chance := rand.New(rand.NewSource(seed))
	chance.Read(s.I[:])
	chance.Read(s.Seed[:])
	return s
}

func known(t *testing.T, i, seed string) api.Secret {
	t.Helper()
	var s api.Secret
	if n, err := hex.Decode(s.I[:], []byte(i)); err != nil || n != len(s.I) {
		t.Fatal(n, err)
	}
	if n, err := hex.Decode(s.Seed[:], []byte(seed)); err != nil || n != len(s.Seed) {
		t.Fatal(n, err)
	}
	return s
}

// key makes one of a width and levels that there are.
func key(t *testing.T, s api.Secret, w, levels int) *Key {
	t.Helper()
	k, e := New(s, w, levels)
	if e != api.OK || k == nil {
		t.Fatalf("New with w %d, levels %d: error %d", w, levels, e)
	}
	return k
}

// signed signs with a number that there is.
func signed(t *testing.T, k *Key, n int, msg []byte) []byte {
	t.Helper()
	sig, e := k.Sign(n, msg)
	if e != api.OK {
		t.Fatalf("Sign with n %d: error %d", n, e)
	}
	return sig
}

func verified(t *testing.T, what string, pub, msg, sig []byte, want int) {
	t.Helper()
	if e := Verify(pub, msg, sig); e != want {
		t.Errorf("%s: error %d, want %d", what, e, want)
	}
}

// turned gives a copy of which one bit is another.
func turned(b []byte, at, bit int) []byte {
	c := bytes.Clone(b)
	c[at] ^= 1 << bit
	return c
}

// put gives a copy that has these bytes there.
func put(b []byte, at int, v []byte) []byte {
	c := bytes.Clone(b)
	copy(c[at:], v)
	return c
}

// Promise 5.1: as another implementation has them.
func TestChildOfAnother(t *testing.T) {
	s := known(t, knownI, knownSeed)
	for q, want := range knownChildren {
		if got := Child(s, q); got != known(t, want[0], want[1]) {
			t.Errorf("q %d: %x, %x", q, got.I, got.Seed)
		}
	}
}

// Promise 5.1: of any q, of which its lowest 32 bits say.
func TestChild(t *testing.T) {
	for _, s := range []api.Secret{{}, secret(1), secret(2)} {
		seen := map[api.Secret]int{s: -1}
		for q := range 300 {
			got := Child(s, q)
			if got != plainChild(s, q) {
				t.Errorf("q %d: %x, %x", q, got.I, got.Seed)
			}
			if n, ok := seen[got]; ok {
				t.Errorf("q %d has the secret of %d", q, n)
			}
			seen[got] = q
		}
		for _, q := range []int{1 << 8, 1 << 16, 1 << 24, 1<<31 - 1, 1 << 31, 1<<32 - 1, -1, -32, math.MaxInt32, math.MinInt32, math.MaxInt, math.MinInt} {
			if got := Child(s, q); got != plainChild(s, q) {
				t.Errorf("q %d: %x, %x", q, got.I, got.Seed)
			}
			if Child(s, q) != Child(s, int(uint32(q))) {
				t.Errorf("q %d: not as its lowest 32 bits", q)
			}
		}
	}
	if s := secret(3); Child(s, -1) != Child(s, 1<<32-1) || Child(s, 1<<32+7) != Child(s, 7) {
		t.Error("above 32 bits")
	}
}

// Promise 5.1.
func TestNewOfOthers(t *testing.T) {
	refused := func(w, levels int) {
		if k, e := New(secret(4), w, levels); e != api.ErrArg || k != nil {
			t.Errorf("w %d, levels %d: error %d, %v", w, levels, e, k != nil)
		}
	}
	for _, levels := range otherLevels {
		for _, w := range []int{1, 2, 4, 8} {
			refused(w, levels)
		}
	}
	for _, w := range otherWidths {
		for levels := range 4 {
			refused(w, levels)
		}
	}
}

// Promise 5.1.
func TestMany(t *testing.T) {
	if Many(1) != 32 || Many(2) != 1024 {
		t.Errorf("%d, %d", Many(1), Many(2))
	}
	for _, levels := range otherLevels {
		if n := Many(levels); n != 0 {
			t.Errorf("levels %d: %d", levels, n)
		}
	}
}

// Promise 5.1: the levels, and the upper tree's key; the caller's own.
func TestPublic(t *testing.T) {
	for _, k := range plainKinds {
		s := secret(int64(10 + k.w))
		tree := plainTree(t, s, k.w).Public()
		for levels := 1; levels <= 2; levels++ {
			x := key(t, s, k.w, levels)
			want := joined(plain32(levels), tree)
			first := x.Public()
			if len(first) != 60 || !bytes.Equal(first, want) {
				t.Errorf("w %d, levels %d: %x, want %x", k.w, levels, first, want)
			}
			clear(first[:cap(first)])
			if !bytes.Equal(x.Public(), want) {
				t.Errorf("w %d, levels %d: what is answered is not the caller's own", k.w, levels)
			}
		}
	}
}

// Promises 5.1, 5.2, 5.3: public keys and signatures as another implementation makes them.
func TestOfAnother(t *testing.T) {
	s, msg := known(t, knownI, knownSeed), []byte(knownText)
	for _, k := range knownKeys {
		x := key(t, s, k.w, k.levels)
		pub := x.Public()
		if got := hex.EncodeToString(pub); got != k.pub {
			t.Errorf("w %d, levels %d: public key %s", k.w, k.levels, got)
		}
		for n, want := range k.sigs {
			sig := signed(t, x, n, msg)
			if h := plainHash(sig); hex.EncodeToString(h[:]) != want {
				t.Errorf("w %d, levels %d, n %d: signature of %d bytes, digest %x", k.w, k.levels, n, len(sig), h)
			}
			verified(t, "another's", pub, msg, sig, api.OK)
		}
	}
}

// Promises 5.2, 5.4: of every number of a key of one width as the plain one, and verified.
func TestSignEveryNumber(t *testing.T) {
	chance := rand.New(rand.NewSource(20))
	s := secret(20)
	p := plainOf(t, s, 1)
	for levels := 1; levels <= 2; levels++ {
		x := key(t, s, 1, levels)
		pub := x.Public()
		for _, n := range chance.Perm(Many(levels)) {
			msg := make([]byte, chance.Intn(100))
			chance.Read(msg)
			sig := signed(t, x, n, msg)
			if !bytes.Equal(sig, p.sign(t, levels, n, msg)) {
				t.Fatalf("levels %d, n %d: signature of %d bytes", levels, n, len(sig))
			}
			if e := Verify(pub, msg, sig); e != api.OK {
				t.Fatalf("levels %d, n %d: error %d", levels, n, e)
			}
		}
	}
}

// Promises 5.2, 5.4: at the ends of trees, of all widths, as the plain one, and verified.
func TestSign(t *testing.T) {
	chance := rand.New(rand.NewSource(21))
	for _, k := range plainKinds {
		s := secret(21)
		p := plainOf(t, s, k.w)
		for levels := 1; levels <= 2; levels++ {
			x := key(t, s, k.w, levels)
			pub := x.Public()
			for _, n := range edges[levels] {
				msg := make([]byte, chance.Intn(300))
				chance.Read(msg)
				kept := bytes.Clone(msg)
				sig := signed(t, x, n, msg)
				if len(sig) != k.size(levels) || !bytes.Equal(sig, p.sign(t, levels, n, kept)) {
					t.Errorf("w %d, levels %d, n %d: signature of %d bytes", k.w, levels, n, len(sig))
				}
				verified(t, "what was signed", pub, kept, sig, api.OK)
				if !bytes.Equal(msg, kept) {
					t.Error("the message is changed")
				}
			}
		}
	}
}

// Promise 5.2, T4: a key that is used up, or a number below 0, is told beside nothing, and changes nothing.
func TestSignOfOtherNumbers(t *testing.T) {
	for levels, many := range map[int]int{1: 32, 2: 1024} {
		x := key(t, secret(22), 2, levels)
		refused := func() {
			for _, n := range []int{many, many + 1, 2 * many, 1 << 15, 1 << 16, 1 << 20, 1<<32 + 1, math.MaxInt} {
				if sig, e := x.Sign(n, []byte("m")); e != api.ErrEmpty || len(sig) != 0 {
					t.Errorf("levels %d, n %d: error %d, %d bytes", levels, n, e, len(sig))
				}
			}
			for _, n := range []int{-1, -31, -32, -33, -many, math.MinInt} {
				if sig, e := x.Sign(n, []byte("m")); e != api.ErrArg || len(sig) != 0 {
					t.Errorf("levels %d, n %d: error %d, %d bytes", levels, n, e, len(sig))
				}
			}
		}
		refused()
		first, pub := signed(t, x, many-1, []byte("m")), x.Public()
		refused()
		if !bytes.Equal(signed(t, x, many-1, []byte("m")), first) || !bytes.Equal(x.Public(), pub) {
			t.Errorf("levels %d: what was refused has changed something", levels)
		}
	}
}

// Promise 5.2: one number may be asked twice, in any order; answers and arguments stay apart; no message is an empty one.
func TestSignTwice(t *testing.T) {
	for levels := 1; levels <= 2; levels++ {
		x := key(t, secret(23), 4, levels)
		msg := []byte("message")
		first := signed(t, x, 9, msg)
		kept := bytes.Clone(first)
		other := signed(t, x, 9, []byte("another"))
		verified(t, "another message of the same number", x.Public(), []byte("another"), other, api.OK)
		signed(t, x, Many(levels)-1, msg)
		signed(t, x, 2, msg)
		second := signed(t, x, 9, msg)
		clear(second[:cap(second)])
		clear(other[:cap(other)])
		if !bytes.Equal(first, kept) || !bytes.Equal(signed(t, x, 9, msg), kept) || string(msg) != "message" {
			t.Errorf("levels %d: answers or arguments share bytes", levels)
		}
		if !bytes.Equal(signed(t, x, 9, nil), signed(t, x, 9, []byte{})) {
			t.Errorf("levels %d: nil", levels)
		}
		if !bytes.Equal(signed(t, key(t, secret(23), 4, levels), 9, msg), kept) {
			t.Errorf("levels %d: another key of the same secret", levels)
		}
	}
}

// Promises 5.1, 5.2, and T4: an upper leaf signs one lower key alone, whatever is signed below it.
func TestUpperLeafSignsOneKey(t *testing.T) {
	x := key(t, secret(24), 8, 2)
	above := func(n int, msg string) []byte { return signed(t, x, n, []byte(msg))[:4+1292+56] }
	for _, q := range []int{0, 17, 31} {
		first := above(32*q, "first")
		for _, n := range []int{0, 1, 16, 31} {
			if !bytes.Equal(above(32*q+n, "another"), first) {
				t.Errorf("leaf %d signs something else for n %d", q, 32*q+n)
			}
		}
	}
}

// The chapter's Ways: no lower tree is made ahead of the first good number of its own, and none twice.
func TestLowerTreesAreMadeOnce(t *testing.T) {
	x := key(t, secret(25), 2, 2)
	x.Public()
	x.Sign(-1, nil)
	x.Sign(1024, nil)
	for q := range x.lower {
		if x.lower[q].tree != nil {
			t.Errorf("tree %d is made ahead", q)
		}
	}
	signed(t, x, 32*5+3, nil)
	made := x.lower[5].tree
	if made == nil {
		t.Fatal("tree 5 is not kept")
	}
	signed(t, x, 32*5+3, nil)
	signed(t, x, 32*5+31, nil)
	for q := range x.lower {
		if q == 5 && x.lower[q].tree != made || q != 5 && x.lower[q].tree != nil {
			t.Errorf("tree %d", q)
		}
	}
	one := key(t, secret(25), 2, 1)
	signed(t, one, 31, nil)
	for q := range one.lower {
		if one.lower[q].tree != nil {
			t.Errorf("one level: tree %d is made", q)
		}
	}
}

// Promises 5.1, 5.2: who asks at the same time is told the same.
func TestManyAskAtOnce(t *testing.T) {
	s := secret(26)
	p := plainOf(t, s, 1)
	pub := joined(plain32(2), p.upper.Public())
	want := map[int][]byte{}
	for n := range 48 {
		want[n] = p.sign(t, 2, n*16, []byte("m"))
	}
	x := key(t, s, 1, 2)
	var wait sync.WaitGroup
	for range 2 {
		for n := range 48 {
			wait.Go(func() {
				if n%3 == 0 && !bytes.Equal(x.Public(), pub) {
					t.Errorf("%d: public key", n)
				}
				if sig, e := x.Sign(n*16, []byte("m")); e != api.OK || !bytes.Equal(sig, want[n]) {
					t.Errorf("n %d: error %d, %d bytes", n*16, e, len(sig))
				}
			})
		}
	}
	wait.Wait()
}

// Promises 5.1 to 5.3: of a nil Key nothing, ErrArg; of one that New did not make the same.
func TestNoKey(t *testing.T) {
	for what, x := range map[string]*Key{"nil": nil, "zero": {}} {
		if b := x.Public(); len(b) != 0 {
			t.Errorf("%s: public key %x", what, b)
		}
		for _, n := range []int{-1, 0, 31, 32, 1023, 1024, math.MaxInt, math.MinInt} {
			if sig, e := x.Sign(n, []byte("m")); e != api.ErrArg || len(sig) != 0 {
				t.Errorf("%s, n %d: error %d, %d bytes", what, n, e, len(sig))
			}
		}
	}
}

// Promise 5.4, T1: a signature of which a byte was turned, wherever, holds no more.
func TestTurnedIsNotVerified(t *testing.T) {
	msg := []byte("message")
	for _, k := range plainKinds {
		for levels := 1; levels <= 2; levels++ {
			x := key(t, secret(27), k.w, levels)
			pub, sig := x.Public(), signed(t, x, Many(levels)-7, msg)
			lower := 4 + k.part // where the lower key stands
			for at := range sig {
				near := at < 80 || at > lower-170 && at < lower+140 || at > len(sig)-170
				if !near && at%53 != 0 { // of the chains' values not every byte
					continue
				}
				if e := Verify(pub, msg, turned(sig, at, at%8)); e != api.ErrSig {
					t.Fatalf("w %d, levels %d, byte %d: error %d", k.w, levels, at, e)
				}
			}
			verified(t, "what was signed", pub, msg, sig, api.OK)
		}
	}
}

// Promise 5.4, T1: nor is it another message's.
func TestOtherMessagesAreNotVerified(t *testing.T) {
	for levels := 1; levels <= 2; levels++ {
		x := key(t, secret(28), 2, levels)
		pub, msg := x.Public(), []byte("message")
		sig := signed(t, x, 12, msg)
		for bit := range 8 * len(msg) {
			verified(t, "a turned message", pub, turned(msg, bit/8, bit%8), sig, api.ErrSig)
		}
		for _, other := range []string{"", "m", "messag", "message\x00", "messagemessage"} {
			verified(t, "another message", pub, []byte(other), sig, api.ErrSig)
		}
		verified(t, "nil", pub, nil, sig, api.ErrSig)
		verified(t, "no message", pub, nil, signed(t, x, 13, []byte{}), api.OK)
	}
}
