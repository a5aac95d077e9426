package lms

import (
	"bytes"
	"encoding/hex"
	"math"
	"math/rand"
	"sync"
	"testing"

	"chirograph/api"
	"chirograph/ots"
)

// otherWidths are none of 1, 2, 4, 8.
var otherWidths = []int{0, 3, 5, 6, 7, 9, 16, 32, -1, -2, -8, 256 + 1, 1<<32 + 2, math.MaxInt, math.MinInt}

func secret(seed int64) api.Secret {
	var s api.Secret
	chance := rand.New(rand.NewSource(seed))
	chance.Read(s.I[:])
	chance.Read(s.Seed[:])
	return s
}

func known(t *testing.T, i, seed string) api.Secret {
	t.Helper()
	var s api.Secret
	if n, err := hex.Decode(s.I[:], []byte(i)); err != nil || n != len(s.I) {
		t.Fatal(n, err)
	}
	if n, err := hex.Decode(s.Seed[:], []byte(seed)); err != nil || n != len(s.Seed) {
		t.Fatal(n, err)
	}
	return s
}

// tree makes one of a width that there is.
func tree(t *testing.T, s api.Secret, w int) *Tree {
	t.Helper()
	x, e := New(s, w)
	if e != api.OK || x == nil {
		t.Fatalf("New with w %d: error %d", w, e)
	}
	return x
}

// signed signs with a leaf that there is.
func signed(t *testing.T, x *Tree, q int, msg []byte) []byte {
	t.Helper()
	sig, e := x.Sign(q, msg)
	if e != api.OK {
		t.Fatalf("Sign with q %d: error %d", q, e)
	}
	return sig
}

func verified(t *testing.T, what string, pub, msg, sig []byte, want int) {
	t.Helper()
	if e := Verify(pub, msg, sig); e != want {
		t.Errorf("%s: error %d, want %d", what, e, want)
	}
}

// turned gives a copy of which one bit is another.
func turned(b []byte, at, bit int) []byte {
	c := bytes.Clone(b)
	c[at] ^= 1 << bit
	return c
}

// put gives a copy that has these four bytes there.
func put(b []byte, at int, v []byte) []byte {
	c := bytes.Clone(b)
	copy(c[at:], v)
	return c
}

// Promise 4.1.
func TestNewOfOtherWidths(t *testing.T) {
	for _, w := range otherWidths {
		if x, e := New(secret(1), w); e != api.ErrArg || x != nil {
			t.Errorf("w %d: error %d, %v", w, e, x != nil)
		}
	}
}

// Promise 4.1: every node as the plain one, of secrets of zeros too.
func TestNodes(t *testing.T) {
	for _, s := range []api.Secret{{}, secret(2)} {
		for _, k := range plainKinds {
			x, want := tree(t, s, k.w), plainNodes(s, k.w)
			for r := 1; r <= 63; r++ {
				if h, e := x.Node(r); e != api.OK || h != want[r] {
					t.Errorf("w %d, node %d: error %d, %x, want %x", k.w, r, e, h, want[r])
				}
			}
		}
	}
}

// Promise 4.1: ErrArg of other numbers, beside nothing, ahead of the first node that is asked for and behind it.
func TestOtherNodes(t *testing.T) {
	x := tree(t, secret(3), 2)
	for range 2 {
		for _, r := range []int{0, -1, -63, 64, 65, 128, 1<<32 + 1, math.MaxInt, math.MinInt} {
			if h, e := x.Node(r); e != api.ErrArg || h != (api.Hash{}) {
				t.Errorf("node %d: error %d, %x", r, e, h)
			}
		}
		x.Node(1)
	}
}

// Promise 4.1.
func TestPublic(t *testing.T) {
	for _, k := range plainKinds {
		s := secret(int64(k.w))
		x := tree(t, s, k.w)
		want := plainPublic(s.I, k.code, plainNodes(s, k.w)[1])
		first := x.Public()
		if len(first) != 56 || !bytes.Equal(first, want) {
			t.Errorf("w %d: %x, want %x", k.w, first, want)
		}
		clear(first[:cap(first)])
		if !bytes.Equal(x.Public(), want) {
			t.Errorf("w %d: what is answered is not the caller's own", k.w)
		}
	}
}

// Promises 4.1, 4.2: RFC 8554, appendix F, test case 2: the lower tree, whose key is made as in appendix A: its root, and its signature of leaf 4.
func TestOfRFC(t *testing.T) {
	s := known(t, "215f83b7ccb9acbcd08db97b0d04dc2b", "a1c4696e2608035a886100d05cd99945eb3370731884a8235e2fb3d4d71f2547")
	msg := []byte("The enumeration in the Constitution, of certain rights, shall not be construed to deny or disparage others retained by the people.\n")
	x := tree(t, s, 8)
	pub := x.Public()
	if got := hex.EncodeToString(pub); got != "0000000500000004215f83b7ccb9acbcd08db97b0d04dc2ba1cd035833e0e90059603f26e07ad2aad152338e7a5e5984bcd5f7bb4eba40b7" {
		t.Errorf("public key %s", got)
	}
	sig := signed(t, x, 4, msg)
	if h := plainHash(sig); hex.EncodeToString(h[:]) != "987a83f7670a93837c484888fde579ca3653db8b66c9339b3c03b1e9b949d771" {
		t.Errorf("signature of %d bytes, digest %x", len(sig), h)
	}
	verified(t, "the RFC's", pub, msg, sig, api.OK)
}

// Promises 4.1, 4.2: public keys, and digests of signatures, as another implementation of the RFC (Bouncy Castle's) makes them.
func TestOfAnother(t *testing.T) {
	s := known(t, "d08fabd4a2091ff0a8cb4ed834e74534", "558b8966c48ae9cb898b423c83443aae014a72f1b1ab5cc85cf1d892903b5439")
	msg := []byte("The powers not delegated to the United States")
	for _, k := range []struct {
		w    int
		pub  string
		sigs map[int]string // by leaf
	}{
		{1, "0000000500000001d08fabd4a2091ff0a8cb4ed834e745341122fecd3b7878effaa1f28f1c4b1900c8343334f0a3ebe6dd31f18e0643661a", map[int]string{
			0:  "4a0d9e8b583bad7e36f1fb9f7fc40097c3baf91fc5c4e4219c40b9bb57b34de1",
			1:  "a7da2f24a3b5ee55a085c883b24b0434b0fbee4fc7c75c4663b94c97998c8f87",
			5:  "135a938f402c56265b6836f6e98d95ee604e83bab9a4f3671089739078f3c407",
			30: "f75c56e5c70759504b2ac4a9a35e3f94b04ec9f4ecfd15fb6bd2fa99dd39ccfd",
			31: "b1d6de632c0e64037a166d740e3ec87bf114362338bb3a8fea58abc690af73f3",
		}},
		{2, "0000000500000002d08fabd4a2091ff0a8cb4ed834e74534608e7f4d5ba95a87e781276b06ada38070b6652ad0f323c858e5403913ce0041", map[int]string{
			0:  "f73db6e317ab9b73445f3862a7ff2c24350491377d942cfb1492370e5153ebb9",
			1:  "bbc49234c155b34d7ff036afe83f6ef2497670381b489ee926fedc2af43ba5a9",
			5:  "cafd30b8b4955c80a90c4338bcf0112c04fd96928863eb015ac30cd1f7105a6f",
			30: "1355b603999b1cdfa3d6694fab3ab8540d2f1ab25ffee044bc22dba21a71b8ac",
			31: "9cdaefb99c97415560e6ee70a9d819dcb95166b2ee808eea46d43a87a68bd339",
		}},
		{4, "0000000500000003d08fabd4a2091ff0a8cb4ed834e74534b1d104a0cdbe7e2e696fe3f51b8df531d74d3947fbbf001f2d2fb52090e24019", map[int]string{
			0:  "c081b2ef3cb295c5da25c6f498fc77d8bf3486bb355995aa42d5e895e78f77e1",
			1:  "e613cc8f09cf8ad0f17de6532957e30be0d2c281972f648fe7949a59f66f3a7a",
			5:  "e6f707f3bf903295c478d788568a36ad26cfbe25d8d70f4ee75fc583fb67c550",
			30: "ffd3fab028ee03ba7322d2056f40e3c4833e8d26b4811eb30dfcf1d73e753c60",
			31: "1a5a4c9cec3bc559289fdc3c3b1a1b91e063be76ebf555a4e530c4846d377556",
		}},
		{8, "0000000500000004d08fabd4a2091ff0a8cb4ed834e745348b9a583d74439771b52302706a4463e3e342a868bcb02f698f6316b6d92279f8", map[int]string{
			0:  "183ac5c6f3de7aa103c3a4cd0444d7bb02f1ab92d70835c2089aeadc742c2543",
			1:  "8d827ec32c0652b202cad2c24de46dddfadf2edffd7b2fe9f94f593dd14f080a",
			5:  "b7d36a98f61ba8aad727ead15ed2d1f32346cda4e5afa03dc1b1644e2a160a8d",
			30: "e84754ab1a6d059f53fbffa71b8dea6acb20733c8d1eb5325546b2ed54f502db",
			31: "b18763fef66ddaff787442525f97b84c67a522411ff35033c4be82dd60f94ffd",
		}},
	} {
		x := tree(t, s, k.w)
		if got := hex.EncodeToString(x.Public()); got != k.pub {
			t.Errorf("w %d: public key %s", k.w, got)
		}
		for q, want := range k.sigs {
			sig := signed(t, x, q, msg)
			if h := plainHash(sig); hex.EncodeToString(h[:]) != want {
				t.Errorf("w %d, q %d: signature of %d bytes, digest %x", k.w, q, len(sig), h)
			}
			verified(t, "another's", x.Public(), msg, sig, api.OK)
		}
	}
}

// Promise 4.1, and the chapter's Ways: nothing is made ahead of the first good question, all of it by that one, and nothing once more.
func TestTreeIsMadeOnce(t *testing.T) {
	ask := []func(*Tree){
		func(x *Tree) { x.Public() },
		func(x *Tree) { x.Node(63) },
		func(x *Tree) { x.Sign(7, nil) },
	}
	for i := range ask {
		x := tree(t, secret(4), 2)
		x.Node(0)
		x.Sign(-1, nil)
		x.Sign(32, nil)
		if n := x.made.Load(); n != 0 {
			t.Errorf("%d nodes ahead of question %d", n, i)
		}
		for j := range ask {
			ask[(i+j)%len(ask)](x)
			if n := x.made.Load(); n != 63 {
				t.Errorf("%d nodes behind question %d", n, (i+j)%len(ask))
			}
		}
	}
}

// Promises 4.1, 4.2: who asks at the same time is told the same; the tree is made once.
func TestManyAskAtOnce(t *testing.T) {
	s := secret(5)
	nodes := plainNodes(s, 1)
	pub := plainPublic(s.I, 1, nodes[1])
	x := tree(t, s, 1)
	var wait sync.WaitGroup
	for q := range 32 {
		wait.Go(func() {
			if q%2 == 0 && !bytes.Equal(x.Public(), pub) {
				t.Errorf("%d: public key", q)
			}
			if h, e := x.Node(32 + q); e != api.OK || h != nodes[32+q] {
				t.Errorf("%d: node, error %d", q, e)
			}
			sig, e := x.Sign(q, []byte("m"))
			if e != api.OK || Verify(pub, []byte("m"), sig) != api.OK {
				t.Errorf("%d: signature, error %d", q, e)
			}
		})
	}
	wait.Wait()
	if n := x.made.Load(); n != 63 {
		t.Errorf("%d nodes were made", n)
	}
}

// Promises 4.1, 4.2: of a nil Tree nothing, ErrArg; of one that New did not make the same.
func TestNoTree(t *testing.T) {
	for what, x := range map[string]*Tree{"nil": nil, "zero": {}} {
		if b := x.Public(); len(b) != 0 {
			t.Errorf("%s: public key %x", what, b)
		}
		for _, r := range []int{-1, 0, 1, 32, 63, 64} {
			if h, e := x.Node(r); e != api.ErrArg || h != (api.Hash{}) {
				t.Errorf("%s, node %d: error %d, %x", what, r, e, h)
			}
		}
		for _, q := range []int{-1, 0, 31, 32, math.MaxInt} {
			if sig, e := x.Sign(q, []byte("m")); e != api.ErrArg || len(sig) != 0 {
				t.Errorf("%s, q %d: error %d, %d bytes", what, q, e, len(sig))
			}
		}
	}
}

// Promise 4.2: each leaf's signature as the plain one.
func TestSign(t *testing.T) {
	chance := rand.New(rand.NewSource(6))
	for _, k := range plainKinds {
		s := secret(6)
		x, nodes := tree(t, s, k.w), plainNodes(s, k.w)
		for q := range 32 {
			msg := make([]byte, chance.Intn(300))
			chance.Read(msg)
			sig := signed(t, x, q, msg)
			if len(sig) != k.size || !bytes.Equal(sig, plainSign(s, k, nodes, q, msg)) {
				t.Errorf("w %d, q %d: signature of %d bytes", k.w, q, len(sig))
			}
		}
	}
}

// Promise 4.2, T4: a key that is used up, or a number below 0, is told beside nothing, and changes nothing.
func TestSignOfOtherLeaves(t *testing.T) {
	for _, k := range plainKinds {
		x := tree(t, secret(7), k.w)
		refused := func() {
			for _, q := range []int{32, 33, 63, 64, 1 << 16, 1<<32 + 1, math.MaxInt} {
				if sig, e := x.Sign(q, []byte("m")); e != api.ErrEmpty || len(sig) != 0 {
					t.Errorf("w %d, q %d: error %d, %d bytes", k.w, q, e, len(sig))
				}
			}
			for _, q := range []int{-1, -31, -32, math.MinInt} {
				if sig, e := x.Sign(q, []byte("m")); e != api.ErrArg || len(sig) != 0 {
					t.Errorf("w %d, q %d: error %d, %d bytes", k.w, q, e, len(sig))
				}
			}
		}
		refused()
		first, pub := signed(t, x, 31, []byte("m")), x.Public()
		refused()
		if !bytes.Equal(signed(t, x, 31, []byte("m")), first) || !bytes.Equal(x.Public(), pub) {
			t.Errorf("w %d: what was refused has changed something", k.w)
		}
	}
}

// Promise 4.2: one leaf may be asked twice, in any order; answers and arguments stay apart; no message is an empty one.
func TestSignTwice(t *testing.T) {
	for _, w := range ots.Types() {
		x := tree(t, secret(8), w)
		msg := []byte("message")
		first := signed(t, x, 9, msg)
		kept := bytes.Clone(first)
		other := signed(t, x, 9, []byte("another"))
		verified(t, "another message of the same leaf", x.Public(), []byte("another"), other, api.OK)
		signed(t, x, 2, msg)
		second := signed(t, x, 9, msg)
		clear(second[:cap(second)])
		clear(other[:cap(other)])
		if !bytes.Equal(first, kept) || !bytes.Equal(signed(t, x, 9, msg), kept) || string(msg) != "message" {
			t.Errorf("w %d: answers or arguments share bytes", w)
		}
		if !bytes.Equal(signed(t, x, 9, nil), signed(t, x, 9, []byte{})) {
			t.Errorf("w %d: nil", w)
		}
		if !bytes.Equal(signed(t, tree(t, secret(8), w), 9, msg), kept) {
			t.Errorf("w %d: another tree of the same secret", w)
		}
	}
}

// Promise 4.2.
func TestSize(t *testing.T) {
	for _, k := range plainKinds {
		if got := Size(k.w); got != k.size {
			t.Errorf("w %d: %d, want %d", k.w, got, k.size)
		}
	}
	for _, w := range otherWidths {
		if got := Size(w); got != 0 {
			t.Errorf("w %d: %d", w, got)
		}
	}
}

// Promise 4.2: I and the root may be any bytes; lengths and typecodes may not.
func TestForm(t *testing.T) {
	for _, fill := range []byte{0, 0x5a, 0xff} {
		body := bytes.Repeat([]byte{fill}, 48)
		for code := range 300 {
			for tree := range 12 {
				pub := append(append(plain32(tree), plain32(code)...), body...)
				kept := bytes.Clone(pub)
				if want := tree == 5 && code >= 1 && code <= 4; Form(pub) != want {
					t.Errorf("typecodes %d, %d: %v", tree, code, !want)
				}
				if !bytes.Equal(pub, kept) {
					t.Error("it is changed")
				}
			}
		}
		long := append(append(plain32(5), plain32(2)...), bytes.Repeat([]byte{fill}, 100)...)
		for n := range long {
			if Form(long[:n]) != (n == 56) {
				t.Errorf("%d bytes: %v", n, n != 56)
			}
		}
	}
	if Form(nil) {
		t.Error("nil")
	}
}

// Promise 4.2: a typecode is all of its four bytes.
func TestFormOfTurnedTypes(t *testing.T) {
	for _, k := range plainKinds {
		pub := plainPublic([16]byte{1}, k.code, api.Hash{2})
		for bit := range 64 {
			other := turned(pub, bit/8, bit%8)
			last := int(other[7])
			want := bit/8 == 7 && last >= 1 && last <= 4
			if Form(other) != want {
				t.Errorf("%x: %v", other[:8], !want)
			}
		}
	}
}

// Promise 4.3: ErrBad, unless the key has the form; ahead of what is wrong with the signature, and beside one that holds.
func TestVerifyOfOtherKeys(t *testing.T) {
	msg := []byte("message")
	for _, k := range plainKinds {
		x := tree(t, secret(9), k.w)
		pub, sig := x.Public(), signed(t, x, 3, msg)
		long := append(bytes.Clone(pub), make([]byte, 60)...)
		keys := [][]byte{nil, {}, long[:4], long[:8], long[:55], long[:57], long[:60], long, pub[1:],
			put(pub, 0, plain32(0)), put(pub, 0, plain32(4)), put(pub, 0, plain32(6)), put(pub, 0, []byte{5, 0, 0, 0}), put(pub, 0, []byte{1, 0, 0, 5}),
			put(pub, 4, plain32(0)), put(pub, 4, plain32(5)), put(pub, 4, []byte{1, 0, 0, byte(k.code)}), put(pub, 4, []byte{255, 255, 255, 255})}
		for n, key := range keys {
			for _, sig := range [][]byte{sig, nil, sig[:len(sig)-1], turned(sig, 40, 0)} {
				if e := Verify(key, msg, sig); e != api.ErrBad {
					t.Errorf("w %d, key %d, signature of %d bytes: error %d", k.w, n, len(sig), e)
				}
			}
		}
		verified(t, "the key itself", pub, msg, sig, api.OK)
	}
}

// Promise 4.3, T1: a key of which a bit was turned, or another's, takes no signature.
func TestVerifyWithAnothersKey(t *testing.T) {
	msg := []byte("message")
	for _, k := range plainKinds {
		x := tree(t, secret(10), k.w)
		pub, sig := x.Public(), signed(t, x, 22, msg)
		for at := 8; at < 56; at++ {
			verified(t, "a turned key", turned(pub, at, at%8), msg, sig, api.ErrSig)
		}
		for _, other := range plainKinds {
			if other.w != k.w {
				verified(t, "a key of another typecode", put(pub, 4, plain32(other.code)), msg, sig, api.ErrSig)
				verified(t, "a key of another width", tree(t, secret(10), other.w).Public(), msg, sig, api.ErrSig)
			}
		}
		verified(t, "another tree's key", tree(t, secret(11), k.w).Public(), msg, sig, api.ErrSig)
	}
}

// Promise 4.3: ErrSig of other lengths, even where all that is ahead of the end holds.
func TestVerifyOfOtherLengths(t *testing.T) {
	msg := []byte("message")
	for _, k := range plainKinds {
		x := tree(t, secret(12), k.w)
		pub := x.Public()
		sig := signed(t, x, 0, msg)
		long := append(bytes.Clone(sig), make([]byte, 400)...)
		for n := range long {
			if n != k.size {
				if e := Verify(pub, msg, long[:n]); e != api.ErrSig {
					t.Fatalf("w %d, %d bytes: error %d", k.w, n, e)
				}
			}
		}
		verified(t, "the first byte is gone", pub, msg, sig[1:], api.ErrSig)
		verified(t, "nil", pub, msg, nil, api.ErrSig)
		verified(t, "zeros", pub, msg, make([]byte, k.size), api.ErrSig)
		for _, other := range plainKinds {
			verified(t, "zeros of each length", pub, msg, make([]byte, other.size), api.ErrSig)
		}
	}
}

// Promise 4.3: ErrSig of other typecodes and leaves, in all bits; none of the typecodes goes into a hash.
func TestVerifyOfOtherTypesAndLeaves(t *testing.T) {
	msg := []byte("message")
	for _, k := range plainKinds {
		x := tree(t, secret(13), k.w)
		pub, sig := x.Public(), signed(t, x, 6, msg)
		tail := k.size - 164 // where the tree's typecode stands
		for _, at := range []int{0, 4, tail} {
			for bit := range 32 {
				if e := Verify(pub, msg, turned(sig, at+bit/8, bit%8)); e != api.ErrSig {
					t.Errorf("w %d, from byte %d on bit %d: error %d", k.w, at, bit, e)
				}
			}
		}
		for code := range 20 {
			if code != k.code {
				verified(t, "another typecode of the OTS", pub, msg, put(sig, 4, plain32(code)), api.ErrSig)
			}
			if code != 5 {
				verified(t, "another typecode of the tree", pub, msg, put(sig, tail, plain32(code)), api.ErrSig)
			}
		}
		for q := range 100 {
			if q != 6 {
				verified(t, "another leaf", pub, msg, put(sig, 0, plain32(q)), api.ErrSig)
			}
		}
		for _, q := range [][]byte{{255, 255, 255, 255}, {128, 0, 0, 6}, {1, 0, 0, 6}, {255, 255, 255, 230}} {
			verified(t, "a leaf that is none", pub, msg, put(sig, 0, q), api.ErrSig)
		}
	}
}

// Promise 4.3, T1: paths that are another leaf's, or in another order, lead elsewhere.
func TestVerifyOfOtherPaths(t *testing.T) {
	msg := []byte("message")
	x := tree(t, secret(14), 2)
	pub := x.Public()
	for q := range 32 {
		sig := signed(t, x, q, msg)
		at := len(sig) - 160
		other := signed(t, x, q^1, msg)
		verified(t, "the path of the leaf beside it", pub, msg, put(sig, at, other[at:]), api.ErrSig)
		for n := range 4 {
			swapped := put(put(sig, at+32*n, sig[at+32*n+32:at+32*n+64]), at+32*n+32, sig[at+32*n:at+32*n+32])
			verified(t, "two nodes changed about", pub, msg, swapped, api.ErrSig)
		}
	}
}

// Promise 4.3: whatever the bytes are, a key whose root they lead to takes them, and one whose root is another does not.
func TestVerifyOfAnyBytes(t *testing.T) {
	chance := rand.New(rand.NewSource(15))
	for _, k := range plainKinds {
		for q := range 32 {
			var i [16]byte
			chance.Read(i[:])
			msg := make([]byte, chance.Intn(100))
			chance.Read(msg)
			sig := make([]byte, k.size)
			chance.Read(sig)
			sig = put(put(put(sig, 0, plain32(q)), 4, plain32(k.code)), k.size-164, plain32(5))
			root := plainRoot(i, k, msg, sig)
			pub := plainPublic(i, k.code, root)
			keptMsg, keptSig, keptPub := bytes.Clone(msg), bytes.Clone(sig), bytes.Clone(pub)
			verified(t, "what leads to the root", pub, msg, sig, api.OK)
			if !bytes.Equal(msg, keptMsg) || !bytes.Equal(sig, keptSig) || !bytes.Equal(pub, keptPub) {
				t.Error("what was handed in is changed")
			}
			root[chance.Intn(32)] ^= 1
			verified(t, "what leads elsewhere", plainPublic(i, k.code, root), msg, sig, api.ErrSig)
		}
	}
}

// Promise 4.4: what was signed is verified, of every leaf, by who has the public key alone.
func TestSignedIsVerified(t *testing.T) {
	chance := rand.New(rand.NewSource(16))
	for _, w := range ots.Types() {
		x := tree(t, secret(int64(20+w)), w)
		pub := x.Public()
		for q := range 32 {
			msg := make([]byte, chance.Intn(200))
			chance.Read(msg)
			verified(t, "what was signed", pub, msg, signed(t, x, q, msg), api.OK)
		}
		verified(t, "no message", pub, nil, signed(t, x, 0, []byte{}), api.OK)
	}
}

// Promise 4.4, T1: a signature of which a byte was turned, wherever, holds no more.
func TestTurnedIsNotVerified(t *testing.T) {
	msg := []byte("message")
	for _, k := range plainKinds {
		x := tree(t, secret(17), k.w)
		pub, sig := x.Public(), signed(t, x, 25, msg)
		for at := 0; at < k.size; at++ {
			if at > 80 && at < k.size-164 && at%29 != 0 { // of the chains' values at least a byte each
				continue
			}
			if e := Verify(pub, msg, turned(sig, at, at%8)); e != api.ErrSig {
				t.Fatalf("w %d, byte %d: error %d", k.w, at, e)
			}
		}
	}
}

// Promise 4.4, T1: nor is it another message's.
func TestOtherMessagesAreNotVerified(t *testing.T) {
	for _, w := range ots.Types() {
		x := tree(t, secret(18), w)
		pub, msg := x.Public(), []byte("message")
		sig := signed(t, x, 12, msg)
		for bit := range 8 * len(msg) {
			verified(t, "a turned message", pub, turned(msg, bit/8, bit%8), sig, api.ErrSig)
		}
		for _, other := range []string{"", "m", "messag", "message\x00", "messagemessage"} {
			verified(t, "another message", pub, []byte(other), sig, api.ErrSig)
		}
	}
}
