package hss

import (
	"bytes"
	"math/rand"
	"testing"

	"chirograph/api"
)

// Promise 5.3: ErrBad, unless the key has the form; ahead of what is wrong with the signature, and beside one that holds.
func TestVerifyOfOtherKeys(t *testing.T) {
	msg := []byte("message")
	for _, k := range plainKinds {
		for levels := 1; levels <= 2; levels++ {
			x := key(t, secret(40), k.w, levels)
			pub, sig := x.Public(), signed(t, x, 3, msg)
			long := append(bytes.Clone(pub), make([]byte, 60)...)
			keys := [][]byte{nil, {}, long[:4], long[:8], long[:56], long[:59], long[:61], long[:64], long, pub[1:], pub[4:],
				put(pub, 0, plain32(0)), put(pub, 0, plain32(3)), put(pub, 0, plain32(4)), put(pub, 0, plain32(8)), put(pub, 0, []byte{255, 255, 255, 255}),
				put(pub, 0, []byte{byte(levels), 0, 0, 0}), put(pub, 0, []byte{0, 0, 1, byte(levels)}), put(pub, 0, []byte{128, 0, 0, byte(levels)}),
				put(pub, 4, plain32(0)), put(pub, 4, plain32(4)), put(pub, 4, plain32(6)), put(pub, 4, []byte{5, 0, 0, 0}), put(pub, 4, []byte{1, 0, 0, 5}),
				put(pub, 8, plain32(0)), put(pub, 8, plain32(5)), put(pub, 8, []byte{1, 0, 0, byte(k.code)}), put(pub, 8, []byte{255, 255, 255, 255})}
			for n, bad := range keys {
				for _, sig := range [][]byte{sig, nil, sig[:len(sig)-1], turned(sig, 3, 0), turned(sig, 40, 0)} {
					if e := Verify(bad, msg, sig); e != api.ErrBad {
						t.Errorf("w %d, levels %d, key %d, signature of %d bytes: error %d", k.w, levels, n, len(sig), e)
					}
				}
			}
			verified(t, "the key itself", pub, msg, sig, api.OK)
		}
	}
}

// Promise 5.3, T1: a key of which a bit was turned, or another's, takes no signature.
func TestVerifyWithAnothersKey(t *testing.T) {
	msg := []byte("message")
	for _, k := range plainKinds {
		for levels := 1; levels <= 2; levels++ {
			x := key(t, secret(41), k.w, levels)
			pub, sig := x.Public(), signed(t, x, 22, msg)
			for at := 12; at < 60; at++ {
				verified(t, "a turned key", turned(pub, at, at%8), msg, sig, api.ErrSig)
			}
			for _, other := range plainKinds {
				if other.w != k.w {
					verified(t, "a key of another typecode", put(pub, 8, plain32(other.code)), msg, sig, api.ErrSig)
				}
			}
			verified(t, "a key of other levels", put(pub, 0, plain32(3-levels)), msg, sig, api.ErrSig)
			verified(t, "another's key", key(t, secret(42), k.w, levels).Public(), msg, sig, api.ErrSig)
		}
	}
}

// Promise 5.3: ErrSig of other lengths, even where all that is ahead of the end holds.
func TestVerifyOfOtherLengths(t *testing.T) {
	msg := []byte("message")
	for _, k := range plainKinds {
		for levels := 1; levels <= 2; levels++ {
			x := key(t, secret(43), k.w, levels)
			pub, sig := x.Public(), signed(t, x, 0, msg)
			long := append(bytes.Clone(sig), make([]byte, 400)...)
			for n := range long {
				if n != k.size(levels) && Verify(pub, msg, long[:n]) != api.ErrSig {
					t.Fatalf("w %d, levels %d, %d bytes", k.w, levels, n)
				}
			}
			verified(t, "the first byte is gone", pub, msg, sig[1:], api.ErrSig)
			verified(t, "the number is gone", pub, msg, sig[4:], api.ErrSig)
			verified(t, "nil", pub, msg, nil, api.ErrSig)
			for _, other := range plainKinds {
				for more := 1; more <= 2; more++ {
					verified(t, "zeros of each length", pub, msg, make([]byte, other.size(more)), api.ErrSig)
				}
			}
		}
	}
}

// Promise 5.3: its number is one below the level, in all bits; no hash has it in it.
func TestVerifyOfOtherNumbers(t *testing.T) {
	msg := []byte("message")
	for levels := 1; levels <= 2; levels++ {
		x := key(t, secret(44), 4, levels)
		pub, sig := x.Public(), signed(t, x, 5, msg)
		for bit := range 32 {
			verified(t, "a turned number", pub, msg, turned(sig, bit/8, bit%8), api.ErrSig)
		}
		for n := range 300 {
			if n != levels-1 {
				verified(t, "another number", pub, msg, put(sig, 0, plain32(n)), api.ErrSig)
			}
		}
	}
}

// Promise 5.3: what one level signed isn't what two did, and the other way about, though the upper tree is the same.
func TestVerifyOfOtherLevels(t *testing.T) {
	msg := []byte("message")
	for _, k := range plainKinds {
		s := secret(45)
		one, two := key(t, s, k.w, 1), key(t, s, k.w, 2)
		first, second := signed(t, one, 4, msg), signed(t, two, 4, msg)
		verified(t, "one level's with two levels' key", two.Public(), msg, first, api.ErrSig)
		verified(t, "two levels' with one level's key", one.Public(), msg, second, api.ErrSig)
		verified(t, "one level's, as of two", two.Public(), msg, put(first, 0, plain32(1)), api.ErrSig)
		verified(t, "two levels', as of one", one.Public(), msg, put(second, 0, plain32(0)), api.ErrSig)
		verified(t, "the upper part alone", one.Public(), second[4+k.part:4+k.part+56], second[:4+k.part], api.ErrSig)
		upper := joined(plain32(0), second[4:4+k.part])
		verified(t, "the lower key as one level's message", one.Public(), second[4+k.part:4+k.part+56], upper, api.OK)
	}
}

// forged puts a signature of two levels together of what the test says.
func forged(upper, lower, last []byte) []byte { return joined(plain32(1), upper, lower, last) }

// Promise 5.3, T1: each signature holds: the upper one of the lower key, the lower one of the message.
func TestVerifyOfPartsThatDoNotHold(t *testing.T) {
	msg := []byte("message")
	for _, k := range plainKinds {
		p, strange := plainOf(t, secret(46), k.w), plainOf(t, secret(47), k.w)
		pub := joined(plain32(2), p.upper.Public())
		lower, other := p.below(t, 2), p.below(t, 3)
		upper := plainPart(t, p.upper, 2, lower.Public())
		last := plainPart(t, lower, 7, msg)
		verified(t, "all of it", pub, msg, forged(upper, lower.Public(), last), api.OK)
		verified(t, "another lower key", pub, msg, forged(upper, other.Public(), plainPart(t, other, 7, msg)), api.ErrSig)
		verified(t, "a stranger's lower key", pub, msg, forged(upper, strange.upper.Public(), plainPart(t, strange.upper, 7, msg)), api.ErrSig)
		verified(t, "a stranger's upper signature", pub, msg, forged(plainPart(t, strange.upper, 2, lower.Public()), lower.Public(), last), api.ErrSig)
		verified(t, "another lower tree's signature", pub, msg, forged(upper, lower.Public(), plainPart(t, other, 7, msg)), api.ErrSig)
		verified(t, "another leaf's upper signature", pub, msg, forged(plainPart(t, p.upper, 3, other.Public()), lower.Public(), last), api.ErrSig)
		verified(t, "the upper tree's signature of the message", pub, msg, forged(plainPart(t, p.upper, 2, msg), lower.Public(), last), api.ErrSig)
		verified(t, "the lower tree's signature of its key", pub, msg, forged(plainPart(t, lower, 2, lower.Public()), lower.Public(), last), api.ErrSig)
		verified(t, "the parts changed about", pub, msg, forged(last, lower.Public(), upper), api.ErrSig)
		verified(t, "the upper key below", pub, msg, forged(plainPart(t, p.upper, 2, p.upper.Public()), p.upper.Public(), plainPart(t, p.upper, 3, msg)), api.OK)
	}
}

// Promise 5.3: a lower key without the form is none, even one that the upper tree signed.
func TestVerifyOfLowerKeysWithoutForm(t *testing.T) {
	msg := []byte("message")
	for _, k := range plainKinds {
		p := plainOf(t, secret(48), k.w)
		pub := joined(plain32(2), p.upper.Public())
		lower := p.below(t, 0)
		last := plainPart(t, lower, 0, msg)
		for _, bad := range [][]byte{
			make([]byte, 56), bytes.Repeat([]byte{255}, 56),
			put(lower.Public(), 0, plain32(6)), put(lower.Public(), 0, plain32(4)), put(lower.Public(), 0, []byte{1, 0, 0, 5}),
			put(lower.Public(), 4, plain32(0)), put(lower.Public(), 4, plain32(5)), put(lower.Public(), 4, []byte{1, 0, 0, byte(k.code)}),
		} {
			sig := forged(plainPart(t, p.upper, 0, bad), bad, last)
			if e := Verify(pub, msg, sig); e != api.ErrSig {
				t.Errorf("w %d, lower key %x: error %d", k.w, bad[:8], e)
			}
		}
	}
}

// Promise 5.3: all trees are of one width: a lower tree of another one is refused, though each signature holds.
func TestVerifyOfMixedWidths(t *testing.T) {
	msg := []byte("message")
	for _, k := range plainKinds {
		p := plainOf(t, secret(49), k.w)
		pub := joined(plain32(2), p.upper.Public())
		for _, other := range plainKinds {
			lower := plainTree(t, plainChild(p.s, 1), other.w)
			upper, last := plainPart(t, p.upper, 1, lower.Public()), plainPart(t, lower, 6, msg)
			want := api.ErrSig
			if other.w == k.w {
				want = api.OK
			}
			verified(t, "of each width", pub, msg, forged(upper, lower.Public(), last), want)
			cut := append(bytes.Clone(last), make([]byte, 8684)...)[:k.part]
			verified(t, "of each width, cut or drawn out", pub, msg, forged(upper, lower.Public(), cut), want)
		}
	}
}

// Promise 5.3, T3: whatever the bytes are, the call ends, tells the same, and changes nothing.
func TestVerifyOfAnyBytes(t *testing.T) {
	chance := rand.New(rand.NewSource(50))
	for range 2000 {
		k := plainKinds[chance.Intn(4)]
		levels := 1 + chance.Intn(2)
		pub := make([]byte, 60)
		chance.Read(pub)
		pub = put(put(put(pub, 0, plain32(levels)), 4, plain32(5)), 8, plain32(k.code))
		sig := make([]byte, k.size(levels))
		chance.Read(sig)
		sig = put(sig, 0, plain32(levels-1))
		formless := false
		switch chance.Intn(4) {
		case 0:
			pub = turned(pub, chance.Intn(4), chance.Intn(8))
			formless = pub[3] != 1 && pub[3] != 2 || pub[0]|pub[1]|pub[2] != 0
		case 1:
			sig = sig[:chance.Intn(len(sig))]
		}
		want := api.ErrSig
		if formless {
			want = api.ErrBad
		}
		keptPub, keptSig, msg := bytes.Clone(pub), bytes.Clone(sig), []byte("message")
		for range 2 {
			if e := Verify(pub, msg, sig); e != want {
				t.Fatalf("error %d of %x and %d bytes", e, pub, len(sig))
			}
		}
		if !bytes.Equal(pub, keptPub) || !bytes.Equal(sig, keptSig) || string(msg) != "message" {
			t.Fatal("what was handed in is changed")
		}
	}
}

// FuzzVerify holds any change of a signature against what Sign made: promises 5.3, 5.4.
func FuzzVerify(f *testing.F) {
	x, _ := New(secret(51), 8, 2)
	pub, msg := x.Public(), []byte("message")
	sig, _ := x.Sign(100, msg)
	f.Add(pub, msg, sig)
	f.Add(pub, msg, sig[:1000])
	f.Add(pub[:59], msg, sig)
	f.Fuzz(func(t *testing.T, p, m, s []byte) {
		e := Verify(p, m, s)
		if bytes.Equal(p, pub) && (e == api.OK) != (bytes.Equal(m, msg) && bytes.Equal(s, sig)) {
			t.Fatalf("error %d", e)
		}
		if e != api.OK && e != api.ErrBad && e != api.ErrSig || (len(p) != 60) && e != api.ErrBad {
			t.Fatalf("error %d of a key of %d bytes", e, len(p))
		}
	})
}
