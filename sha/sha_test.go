package sha

import (
	"bytes"
	"crypto/sha256"
	"encoding/hex"
	"strings"
	"testing"

	"chirograph/api"
)

// sample is n bytes that do not repeat from block to block.
func sample(n int) []byte {
	b := make([]byte, n)
	x := uint32(n) + 1
	for i := range b {
		x = x*1664525 + 1013904223
		b[i] = byte(x >> 24)
	}
	return b
}

func want(b []byte) api.Hash { return api.Hash(sha256.Sum256(b)) }

// Promise 1.1: texts whose digests FIPS 180-4's examples and others tell.
func TestSumOfKnownTexts(t *testing.T) {
	known := []struct{ text, digest string }{
		{"", "e3b0c44298fc1c149afbf4c8996fb92427ae41e4649b934ca495991b7852b855"},
		{"abc", "ba7816bf8f01cfea414140de5dae2223b00361a396177a9cb410ff61f20015ad"},
		{"abcdbcdecdefdefgefghfghighijhijkijkljklmklmnlmnomnopnopq", "248d6a61d20638b8e5c026930c3e6039a33ce45964ff2167f6ecedd419db06c1"},
		{"abcdefghbcdefghicdefghijdefghijkefghijklfghijklmghijklmnhijklmnoijklmnopjklmnopqklmnopqrlmnopqrsmnopqrstnopqrstu", "cf5b16a778af8380036ce59e7b0492370b249b11e8f07a51afac45037afee9d1"},
		{strings.Repeat("a", 1000000), "cdc76e5c9914fb9281a1c7e284d73e67f1809a48a497200e046d39ccc7112cd0"},
	}
	for _, k := range known {
		h := Sum([]byte(k.text))
		if got := hex.EncodeToString(h[:]); got != k.digest {
			t.Errorf("%d bytes: %s, want %s", len(k.text), got, k.digest)
		}
	}
}

// Promise 1.1: every length around the ends of blocks, where the padding takes a block or two.
func TestSumOfEveryLength(t *testing.T) {
	for n := range 300 {
		b := sample(n)
		if got := Sum(b); got != want(b) {
			t.Fatalf("%d bytes: %x, want %x", n, got, want(b))
		}
	}
}

// Promise 1.1: a length whose count of bits has more than 16, 24 bits.
func TestSumOfLongTexts(t *testing.T) {
	for _, n := range []int{1 << 13, 1<<16 + 1, 1<<21 + 7} {
		b := sample(n)
		if Sum(b) != want(b) {
			t.Fatalf("%d bytes", n)
		}
	}
}

// Promise 1.1: a length whose count of bits has more than 32 bits.
func TestSumOfFourBillionBits(t *testing.T) {
	if testing.Short() {
		t.Skip("some seconds")
	}
	t.Parallel()
	piece := sample(1 << 20)
	d, other := New(), sha256.New()
	for range 1<<9 + 1 {
		d.Write(piece)
		other.Write(piece)
	}
	if got := d.Sum(); !bytes.Equal(got[:], other.Sum(nil)) {
		t.Fatal("long")
	}
}

// Promise 1.1: nil and no bytes are the same.
func TestSumOfNothing(t *testing.T) {
	if Sum(nil) != want(nil) || Sum([]byte{}) != Sum(nil) {
		t.Fatal("nothing")
	}
}

// Promise 1.1: one bit makes another digest, wherever it is turned.
func TestSumOfTurnedBits(t *testing.T) {
	b := sample(130)
	whole := Sum(b)
	for i := range len(b) * 8 {
		b[i/8] ^= 1 << (i % 8)
		if got := Sum(b); got == whole || got != want(b) {
			t.Fatalf("bit %d", i)
		}
		b[i/8] ^= 1 << (i % 8)
	}
}

// Promises 1.2, 1.3: each cut of a text into two pieces makes the same as the whole.
func TestTwoPieces(t *testing.T) {
	for _, n := range []int{0, 1, 55, 56, 63, 64, 65, 127, 128, 129, 200} {
		b := sample(n)
		for cut := range n + 1 {
			d := New()
			d.Write(b[:cut])
			d.Write(b[cut:])
			if d.Sum() != Sum(b) || d.Sum() != want(b) {
				t.Fatalf("%d bytes cut at %d", n, cut)
			}
		}
	}
}

// Promise 1.3: pieces of one length, empty ones and a Sum between them.
func TestManyPieces(t *testing.T) {
	b := sample(1000)
	for step := 1; step < 300; step++ {
		d := New()
		for at := 0; at < len(b); at += step {
			end := min(at+step, len(b))
			d.Write(b[at:end])
			d.Write(nil)
			d.Write([]byte{})
			if d.Sum() != want(b[:end]) {
				t.Fatalf("step %d, behind %d bytes", step, end)
			}
		}
		if d.Sum() != Sum(b) {
			t.Fatalf("step %d", step)
		}
	}
}

// Promise 1.2: a Sum changes nothing: asked again it is the same, and more may be written behind it.
func TestMoreBehindSum(t *testing.T) {
	for _, n := range []int{0, 1, 55, 56, 64, 120} {
		b := sample(n)
		d := New()
		d.Write(b)
		first := d.Sum()
		if first != want(b) || d.Sum() != first {
			t.Fatalf("%d bytes", n)
		}
		d.Write([]byte("more"))
		if d.Sum() != want(append(b, "more"...)) {
			t.Fatalf("more behind %d bytes", n)
		}
	}
}

// Promise 1.2: a Digest that took nothing, made by New or not.
func TestNothingWritten(t *testing.T) {
	if New().Sum() != want(nil) {
		t.Fatal("of New")
	}
	var zero Digest
	if zero.Sum() != want(nil) || zero.Copy().Sum() != want(nil) {
		t.Fatal("of the zero value")
	}
	zero.Write(nil)
	if zero.Sum() != want(nil) {
		t.Fatal("behind an empty piece")
	}
	zero.Write([]byte("abc"))
	if zero.Sum() != want([]byte("abc")) {
		t.Fatal("behind a piece")
	}
}

// Promise 1.2: each New is one of its own.
func TestNewIsItsOwn(t *testing.T) {
	a, b := New(), New()
	a.Write([]byte("a"))
	if b.Sum() != want(nil) || a.Sum() != want([]byte("a")) {
		t.Fatal("shared")
	}
}

// Promise 1.2: what is written to a Copy, or behind it, is not in the other one.
func TestCopyIsItsOwn(t *testing.T) {
	for _, n := range []int{0, 2, 63, 64, 100} {
		b := sample(n)
		d := New()
		d.Write(b)
		c := d.Copy()
		if c == d || c.Sum() != want(b) {
			t.Fatalf("copy of %d bytes", n)
		}
		d.Write([]byte("x"))
		if c.Sum() != want(b) {
			t.Fatalf("behind %d bytes the copy took what the first one took", n)
		}
		tail := sample(70)
		c.Write(tail)
		if d.Sum() != want([]byte(string(b)+"x")) || c.Sum() != want([]byte(string(b)+string(tail))) {
			t.Fatalf("behind %d bytes", n)
		}
	}
}

// Promise 1.2: a copy of a copy.
func TestCopyOfCopy(t *testing.T) {
	d := New()
	d.Write([]byte("a"))
	c := d.Copy()
	c.Write([]byte("b"))
	e := c.Copy()
	e.Write([]byte("c"))
	if d.Sum() != want([]byte("a")) || c.Sum() != want([]byte("ab")) || e.Sum() != want([]byte("abc")) {
		t.Fatal("copies")
	}
}

// Promise 1.2: a nil Digest takes nothing and tells the Sum of nothing.
func TestNilDigest(t *testing.T) {
	var d *Digest
	d.Write([]byte("abc"))
	d.Write(nil)
	if d.Sum() != want(nil) || d.Sum() != Sum(nil) {
		t.Fatal("Sum")
	}
	if d.Copy() != nil {
		t.Fatal("Copy")
	}
}

// What is handed in is neither changed nor kept.
func TestBytesStayTheCallers(t *testing.T) {
	b := sample(100)
	before := bytes.Clone(b)
	d := New()
	d.Write(b)
	Sum(b)
	if !bytes.Equal(b, before) {
		t.Fatal("changed")
	}
	clear(b)
	if d.Sum() != want(before) {
		t.Fatal("kept")
	}
}

// Promise 1.2: 64 small digits, each byte's upper half first.
func TestHex(t *testing.T) {
	var h api.Hash
	if Hex(h) != strings.Repeat("0", 64) {
		t.Fatal("noughts")
	}
	for first := range 256 {
		for i := range h {
			h[i] = byte(first + 37*i)
		}
		if got := Hex(h); got != hex.EncodeToString(h[:]) {
			t.Fatalf("%x: %s", h, got)
		}
	}
	if Hex(Sum([]byte("abc"))) != "ba7816bf8f01cfea414140de5dae2223b00361a396177a9cb410ff61f20015ad" {
		t.Fatal("abc")
	}
}

// The same arguments make the same answer, also where several ask at once.
func TestAskedAtOnce(t *testing.T) {
	d := New()
	d.Write(sample(99))
	told := make(chan api.Hash)
	for range 8 {
		go func() { told <- d.Copy().Sum() }()
		go func() { told <- d.Sum() }()
	}
	for range 16 {
		if <-told != want(sample(99)) {
			t.Error("another one")
		}
	}
}

// FuzzPieces holds any pieces against the library's digest: promises 1.1 to 1.3.
func FuzzPieces(f *testing.F) {
	f.Add([]byte("abc"), []byte(""), []byte("d"))
	f.Add(sample(64), sample(55), sample(1))
	f.Fuzz(func(t *testing.T, a, b, c []byte) {
		d := New()
		all := []byte{}
		for _, piece := range [][]byte{a, b, c} {
			d.Write(piece)
			all = append(all, piece...)
			if d.Sum() != want(all) || d.Copy().Sum() != Sum(all) {
				t.Fatalf("%x", all)
			}
		}
	})
}

func BenchmarkSum(b *testing.B) {
	text := sample(1 << 16)
	b.SetBytes(int64(len(text)))
	b.ReportAllocs()
	for b.Loop() {
		Sum(text)
	}
}
