package key

import (
	"bytes"
	"encoding/binary"
	"encoding/hex"
	"math"
	"strings"
	"sync"
	"testing"

	"chirograph/api"
	"chirograph/lms"
)

// widths are all that there are; sizes are how many bytes their signatures have.
var (
	widths = []int{1, 2, 4, 8}
	sizes  = map[int]int{1: 8684, 2: 4460, 4: 2348, 8: 1292}
)

// otherWidths are none of 1, 2, 4, 8.
var otherWidths = []int{0, 3, 5, 6, 7, 9, 16, 32, -1, -2, -8, 256 + 1, 1<<32 + 2, math.MaxInt, math.MinInt}

// otherUsed are neither from 0 to 32 nor taken for such when they are cut to fewer bits.
var otherUsed = []int{-1, -2, -32, 33, 34, 64, 255, 256, 256 + 5, -256 + 5, 1 << 16, 1<<16 + 5, 1 << 31, 1 << 32, 1<<32 + 5, -1<<32 + 5, math.MaxInt32, math.MinInt32, math.MaxInt, math.MinInt}

// secretOf is made of one letter, and of one that stands behind it.
func secretOf(n int) api.Secret {
	var s api.Secret
	copy(s.I[:], strings.Repeat(string(rune('a'+n)), len(s.I)))
	copy(s.Seed[:], strings.Repeat(string(rune('A'+n)), len(s.Seed)))
	return s
}

func known(t *testing.T, i, seed string) api.Secret {
	t.Helper()
	var s api.Secret
	if n, err := hex.Decode(s.I[:], []byte(i)); err != nil || n != len(s.I) {
		t.Fatal(n, err)
	}
	if n, err := hex.Decode(s.Seed[:], []byte(seed)); err != nil || n != len(s.Seed) {
		t.Fatal(n, err)
	}
	return s
}

// trees are those of the first secret, by width, made once for all tests.
var trees = sync.OnceValue(func() map[int]*lms.Tree {
	all := map[int]*lms.Tree{}
	for _, w := range widths {
		all[w], _ = lms.New(secretOf(0), w)
	}
	return all
})

// fresh is a signer of the first secret.
func fresh(t *testing.T, w, used int) *Signer {
	t.Helper()
	k, e := New(secretOf(0), w, used)
	if e != api.OK || k == nil {
		t.Fatalf("New with w %d, used %d: error %d", w, used, e)
	}
	return k
}

// at is one that stands there. It lends the tree of all tests, so that none is made anew.
func at(t *testing.T, w, next, reserved int) *Signer {
	t.Helper()
	k := fresh(t, w, next)
	k.tree = trees()[w]
	reserve(t, k, reserved, api.OK)
	stands(t, k, next, reserved)
	return k
}

func reserve(t *testing.T, k *Signer, n, want int) {
	t.Helper()
	if e := k.Reserve(n); e != want {
		t.Fatalf("Reserve of %d, with %d reserved: error %d, want %d", n, k.Reserved(), e, want)
	}
}

// stands tells whether the signer is told to be there.
func stands(t *testing.T, k *Signer, next, reserved int) {
	t.Helper()
	if a, b := k.Next(), k.Reserved(); a != next || b != reserved {
		t.Fatalf("next %d, reserved %d, want %d, %d", a, b, next, reserved)
	}
}

// refused asks for a signature that there is not.
func refused(t *testing.T, k *Signer, msg []byte, want int) {
	t.Helper()
	if sig, e := k.Sign(msg); e != want || len(sig) != 0 {
		t.Fatalf("Sign with next %d, reserved %d: error %d, %d bytes, want %d", k.Next(), k.Reserved(), e, len(sig), want)
	}
}

// signed asks for a signature of the first secret with that index.
func signed(t *testing.T, k *Signer, w, q int, msg []byte) []byte {
	t.Helper()
	sig, e := k.Sign(msg)
	want, _ := trees()[w].Sign(q, msg)
	if e != api.OK || !bytes.Equal(sig, want) {
		t.Fatalf("w %d, index %d: error %d, %d bytes that begin with %x", w, q, e, len(sig), sig[:min(4, len(sig))])
	}
	return sig
}

// indexOf is the one that a signature was made with.
func indexOf(sig []byte) int { return int(binary.BigEndian.Uint32(sig)) }
