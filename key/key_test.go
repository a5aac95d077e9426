package key

import (
	"bytes"
	"crypto/sha256"
	"encoding/hex"
	"math"
	"math/rand"
	"testing"

	"chirograph/api"
	"chirograph/lms"
)

// Promise 15.1: ErrArg of other widths, whatever is used, beside no signer.
func TestNewOfOtherWidths(t *testing.T) {
	for _, w := range otherWidths {
		for _, used := range []int{-1, 0, 1, 31, 32, 33} {
			if k, e := New(secretOf(0), w, used); e != api.ErrArg || k != nil {
				t.Errorf("w %d, used %d: error %d, %v", w, used, e, k != nil)
			}
		}
	}
}

// Promise 15.1: ErrArg, unless used is from 0 to Leaves.
func TestNewOfOtherUsed(t *testing.T) {
	for _, w := range widths {
		for _, used := range otherUsed {
			if k, e := New(secretOf(0), w, used); e != api.ErrArg || k != nil {
				t.Errorf("w %d, used %d: error %d, %v", w, used, e, k != nil)
			}
		}
	}
}

// Promise 15.1: indices below used are used up, and none is reserved above, of each width and each number.
func TestNew(t *testing.T) {
	for _, w := range widths {
		for used := range 33 {
			k := fresh(t, w, used)
			stands(t, k, used, used)
			if used == 32 {
				refused(t, k, []byte("m"), api.ErrEmpty)
			} else {
				refused(t, k, []byte("m"), api.ErrNone)
			}
			stands(t, k, used, used)
		}
	}
}

// The chapter's example: New, Sign: ErrNone.
func TestExample(t *testing.T) {
	k, e := New(api.Secret{}, 2, 0)
	if e != api.OK {
		t.Fatal(e)
	}
	if sig, e := k.Sign([]byte("m")); e != 6 || len(sig) != 0 {
		t.Fatal(e, len(sig))
	}
}

// Chapter 15's Public: 56 bytes, lms's of that secret and width, whatever is used, and the caller's own.
func TestPublic(t *testing.T) {
	for _, w := range widths {
		for n, s := range []api.Secret{secretOf(0), secretOf(1), {}} {
			x, _ := lms.New(s, w)
			want := x.Public()
			for _, used := range []int{0, 7, 32} {
				k, e := New(s, w, used)
				if e != api.OK {
					t.Fatal(e)
				}
				got := k.Public()
				if len(got) != 56 || !bytes.Equal(got, want) {
					t.Errorf("w %d, secret %d, used %d: %x, want %x", w, n, used, got, want)
				}
				clear(got[:cap(got)])
				if !bytes.Equal(k.Public(), want) {
					t.Errorf("w %d, secret %d: what is answered is not the caller's own", w, n)
				}
				stands(t, k, used, used)
			}
		}
	}
}

// Promise 15.1: Reserve's ErrArg, unless n is from Reserved to Leaves; then indices below n are reserved: from every place at which a signer may stand, of every n.
func TestReserve(t *testing.T) {
	numbers := append([]int{}, otherUsed...)
	for n := range 33 {
		numbers = append(numbers, n)
	}
	for next := range 33 {
		for reserved := next; reserved <= 32; reserved++ {
			k := at(t, 8, next, reserved)
			for _, n := range numbers {
				if n < reserved || n > 32 {
					reserve(t, k, n, api.ErrArg)
					stands(t, k, next, reserved)
					continue
				}
				other := at(t, 8, next, reserved)
				reserve(t, other, n, api.OK)
				stands(t, other, next, n)
			}
		}
	}
}

// Promise 15.1: it only grows: what is reserved once is never taken back.
func TestReserveOneByOne(t *testing.T) {
	k := fresh(t, 1, 3)
	for n := 3; n <= 32; n++ {
		reserve(t, k, n, api.OK)
		stands(t, k, 3, n)
		reserve(t, k, n, api.OK)
		stands(t, k, 3, n)
		reserve(t, k, n-1, api.ErrArg)
		stands(t, k, 3, n)
	}
	reserve(t, k, 33, api.ErrArg)
	stands(t, k, 3, 32)
}

// Promise 15.2: what Sign tells at every place at which a signer may stand: ErrEmpty, ErrNone, or lms's signature with Next, which is used up then.
func TestSignEverywhere(t *testing.T) {
	msg := []byte("a message")
	for next := range 33 {
		for reserved := next; reserved <= 32; reserved++ {
			k := at(t, 1, next, reserved)
			switch {
			case next == 32:
				refused(t, k, msg, api.ErrEmpty)
				stands(t, k, 32, 32)
			case next == reserved:
				refused(t, k, msg, api.ErrNone)
				stands(t, k, next, reserved)
			default:
				signed(t, k, 1, next, msg)
				stands(t, k, next+1, reserved)
			}
		}
	}
}

// Promise 15.2: of each width, all indices one by one; each signature holds, for its message alone, and is as long as lms says.
func TestSignAll(t *testing.T) {
	for _, w := range widths {
		k := fresh(t, w, 0)
		pub := k.Public()
		for q := range 32 {
			refused(t, k, []byte("too early"), api.ErrNone)
			reserve(t, k, q+1, api.OK)
			stands(t, k, q, q+1)
			msg := []byte{byte(q), 'm'}
			sig := signed(t, k, w, q, msg)
			if len(sig) != sizes[w] || indexOf(sig) != q {
				t.Errorf("w %d: %d bytes of index %d, want %d of %d", w, len(sig), indexOf(sig), sizes[w], q)
			}
			if e := lms.Verify(pub, msg, sig); e != api.OK {
				t.Errorf("w %d, index %d: error %d", w, q, e)
			}
			if e := lms.Verify(pub, []byte("another"), sig); e != api.ErrSig {
				t.Errorf("w %d, index %d, another message: error %d", w, q, e)
			}
			stands(t, k, q+1, q+1)
		}
		for range 3 {
			refused(t, k, []byte("too late"), api.ErrEmpty)
			stands(t, k, 32, 32)
		}
	}
}

// Promise 15.2 and T4: a key that is used up is told, and changes nothing: neither by what is asked of it then.
func TestUsedUp(t *testing.T) {
	for _, w := range widths {
		k := fresh(t, w, 31)
		reserve(t, k, 32, api.OK)
		signed(t, k, w, 31, []byte("the last one"))
		pub := k.Public()
		for _, n := range []int{31, 33, 0, -1} {
			refused(t, k, nil, api.ErrEmpty)
			reserve(t, k, n, api.ErrArg)
			stands(t, k, 32, 32)
		}
		reserve(t, k, 32, api.OK)
		refused(t, k, nil, api.ErrEmpty)
		stands(t, k, 32, 32)
		if !bytes.Equal(k.Public(), pub) {
			t.Errorf("w %d: another public key", w)
		}
	}
}

// Promise 15.2: messages of all lengths, none among them; a nil one and an empty one are the same.
func TestSignAnyMessage(t *testing.T) {
	msgs := [][]byte{nil, {}, {0}, {0, 0}, []byte("a"), bytes.Repeat([]byte{0xff}, 55), bytes.Repeat([]byte{7}, 64), bytes.Repeat([]byte{0}, 100000)}
	k := at(t, 4, 0, len(msgs))
	for q, msg := range msgs {
		signed(t, k, 4, q, msg)
	}
	one, _ := at(t, 4, 9, 10).Sign(nil)
	other, _ := at(t, 4, 9, 10).Sign([]byte{})
	if len(one) == 0 || !bytes.Equal(one, other) {
		t.Error("a nil message and an empty one are not the same")
	}
}

// Promise 15.2: RFC 8554, appendix F, test case 2: the lower tree's signature, with index 4.
func TestOfRFC(t *testing.T) {
	s := known(t, "215f83b7ccb9acbcd08db97b0d04dc2b", "a1c4696e2608035a886100d05cd99945eb3370731884a8235e2fb3d4d71f2547")
	msg := []byte("The enumeration in the Constitution, of certain rights, shall not be construed to deny or disparage others retained by the people.\n")
	k, e := New(s, 8, 4)
	if e != api.OK {
		t.Fatal(e)
	}
	reserve(t, k, 5, api.OK)
	sig, e := k.Sign(msg)
	if h := sha256.Sum256(sig); e != api.OK || hex.EncodeToString(h[:]) != "987a83f7670a93837c484888fde579ca3653db8b66c9339b3c03b1e9b949d771" {
		t.Errorf("error %d, %d bytes, digest %x", e, len(sig), h)
	}
	if got := hex.EncodeToString(k.Public()); got != "0000000500000004215f83b7ccb9acbcd08db97b0d04dc2ba1cd035833e0e90059603f26e07ad2aad152338e7a5e5984bcd5f7bb4eba40b7" {
		t.Errorf("public key %s", got)
	}
}

// Promise 15.2: digests of signatures, as another implementation of the RFC (Bouncy Castle's) makes them of one message with the indices 0, 1, 5, 30, 31.
func TestOfAnother(t *testing.T) {
	s := known(t, "d08fabd4a2091ff0a8cb4ed834e74534", "558b8966c48ae9cb898b423c83443aae014a72f1b1ab5cc85cf1d892903b5439")
	msg := []byte("The powers not delegated to the United States")
	others := map[int]map[int]string{
		1: {0: "4a0d9e8b583bad7e36f1fb9f7fc40097c3baf91fc5c4e4219c40b9bb57b34de1", 1: "a7da2f24a3b5ee55a085c883b24b0434b0fbee4fc7c75c4663b94c97998c8f87", 5: "135a938f402c56265b6836f6e98d95ee604e83bab9a4f3671089739078f3c407", 30: "f75c56e5c70759504b2ac4a9a35e3f94b04ec9f4ecfd15fb6bd2fa99dd39ccfd", 31: "b1d6de632c0e64037a166d740e3ec87bf114362338bb3a8fea58abc690af73f3"},
		2: {0: "f73db6e317ab9b73445f3862a7ff2c24350491377d942cfb1492370e5153ebb9", 1: "bbc49234c155b34d7ff036afe83f6ef2497670381b489ee926fedc2af43ba5a9", 5: "cafd30b8b4955c80a90c4338bcf0112c04fd96928863eb015ac30cd1f7105a6f", 30: "1355b603999b1cdfa3d6694fab3ab8540d2f1ab25ffee044bc22dba21a71b8ac", 31: "9cdaefb99c97415560e6ee70a9d819dcb95166b2ee808eea46d43a87a68bd339"},
		4: {0: "c081b2ef3cb295c5da25c6f498fc77d8bf3486bb355995aa42d5e895e78f77e1", 1: "e613cc8f09cf8ad0f17de6532957e30be0d2c281972f648fe7949a59f66f3a7a", 5: "e6f707f3bf903295c478d788568a36ad26cfbe25d8d70f4ee75fc583fb67c550", 30: "ffd3fab028ee03ba7322d2056f40e3c4833e8d26b4811eb30dfcf1d73e753c60", 31: "1a5a4c9cec3bc559289fdc3c3b1a1b91e063be76ebf555a4e530c4846d377556"},
		8: {0: "183ac5c6f3de7aa103c3a4cd0444d7bb02f1ab92d70835c2089aeadc742c2543", 1: "8d827ec32c0652b202cad2c24de46dddfadf2edffd7b2fe9f94f593dd14f080a", 5: "b7d36a98f61ba8aad727ead15ed2d1f32346cda4e5afa03dc1b1644e2a160a8d", 30: "e84754ab1a6d059f53fbffa71b8dea6acb20733c8d1eb5325546b2ed54f502db", 31: "b18763fef66ddaff787442525f97b84c67a522411ff35033c4be82dd60f94ffd"},
	}
	for w, sigs := range others {
		k, e := New(s, w, 0)
		if e != api.OK {
			t.Fatal(e)
		}
		reserve(t, k, 32, api.OK)
		for q := range 32 {
			sig, e := k.Sign(msg)
			if h := sha256.Sum256(sig); e != api.OK || sigs[q] != "" && hex.EncodeToString(h[:]) != sigs[q] {
				t.Errorf("w %d, index %d: error %d, %d bytes, digest %x", w, q, e, len(sig), h)
			}
		}
	}
}

// Of a nil Signer: ErrArg, 0, nothing; of one that New did not make the same.
func TestNoSigner(t *testing.T) {
	for what, k := range map[string]*Signer{"nil": nil, "zero": {}} {
		for range 2 {
			if b := k.Public(); len(b) != 0 {
				t.Errorf("%s: public key %x", what, b)
			}
			for _, n := range []int{-1, 0, 1, 31, 32, 33, math.MaxInt, math.MinInt} {
				if e := k.Reserve(n); e != api.ErrArg {
					t.Errorf("%s: Reserve of %d: error %d", what, n, e)
				}
			}
			if a, b := k.Next(), k.Reserved(); a != 0 || b != 0 {
				t.Errorf("%s: next %d, reserved %d", what, a, b)
			}
			for _, msg := range [][]byte{nil, []byte("m")} {
				if sig, e := k.Sign(msg); e != api.ErrArg || len(sig) != 0 {
					t.Errorf("%s: error %d, %d bytes", what, e, len(sig))
				}
			}
		}
	}
}

// Rule 2 of the document: a message is not changed and not kept; a signature is the caller's own.
func TestNothingIsShared(t *testing.T) {
	k := at(t, 2, 5, 9)
	msg := []byte("a message")
	one := signed(t, k, 2, 5, msg)
	if string(msg) != "a message" {
		t.Errorf("the message is %q now", msg)
	}
	clear(msg)
	clear(one[:cap(one)])
	signed(t, k, 2, 6, []byte("a message"))
	signed(t, at(t, 2, 5, 6), 2, 5, []byte("a message"))
	if again, _ := trees()[2].Sign(5, []byte("a message")); bytes.Equal(one, again) {
		t.Error("the signature that was wiped stands again")
	}
}

// Rule 2 of the document: two signers of one secret have nothing in common.
func TestSignersStandApart(t *testing.T) {
	a, b := at(t, 8, 0, 4), at(t, 8, 0, 0)
	signed(t, a, 8, 0, nil)
	signed(t, a, 8, 1, nil)
	stands(t, b, 0, 0)
	refused(t, b, nil, api.ErrNone)
	reserve(t, b, 1, api.OK)
	signed(t, b, 8, 0, nil)
	stands(t, a, 2, 4)
	stands(t, b, 1, 1)
}

// Rule 3 of the document, promises 15.1 and 15.2: random calls, as the plain one; and the same calls on another signer, with the same answers.
func TestRandomCalls(t *testing.T) {
	chance := rand.New(rand.NewSource(15))
	for round := range 120 {
		w, used := widths[round%4], chance.Intn(33)
		k, twin, p := at(t, w, used, used), at(t, w, used, used), plainNew(used)
		for range 40 {
			if chance.Intn(2) == 0 {
				n := p.near(chance)
				want := p.reserve(n)
				reserve(t, k, n, want)
				reserve(t, twin, n, want)
			} else {
				sameSign(t, k, twin, p, w, []byte{byte(chance.Intn(3))})
			}
			stands(t, k, first(p.used), first(p.reserved))
			stands(t, twin, first(p.used), first(p.reserved))
		}
	}
}

// near is a number that may be, or may not be, reserved next.
func (p *plainSigner) near(chance *rand.Rand) int { return first(p.reserved) + chance.Intn(5) - 2 }

func sameSign(t *testing.T, k, twin *Signer, p *plainSigner, w int, msg []byte) {
	t.Helper()
	q, e := p.sign()
	if e != plainOK {
		refused(t, k, msg, e)
		refused(t, twin, msg, e)
		return
	}
	signed(t, k, w, q, msg)
	signed(t, twin, w, q, msg)
}
