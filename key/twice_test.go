package key

import (
	"math/rand"
	"runtime"
	"slices"
	"sync"
	"sync/atomic"
	"testing"

	"chirograph/api"
	"chirograph/lms"
)

// house is who signs: what it synced stays when it crashes, and its signer does not.
type house struct {
	t      *testing.T
	w      int
	synced int
	signer *Signer
	signs  map[int]bool // indices that signed, in all its lives
	pub    []byte
}

func founded(t *testing.T, w int) *house {
	h := &house{t: t, w: w, signs: map[int]bool{}}
	h.begin()
	h.pub = h.signer.Public()
	return h
}

// begin is what it does behind a crash: New is told what was synced.
func (h *house) begin() {
	h.t.Helper()
	h.signer = fresh(h.t, h.w, h.synced)
	h.signer.tree = trees()[h.w]
	stands(h.t, h.signer, h.synced, h.synced)
}

// sync keeps that indices below n are reserved.
func (h *house) sync(n int) { h.synced = max(h.synced, min(n, api.Leaves)) }

// ahead reserves so many more, behind the sync of them.
func (h *house) ahead(n int) {
	h.t.Helper()
	h.sync(h.signer.Reserved() + n)
	reserve(h.t, h.signer, h.synced, api.OK)
}

// sign asks for a signature: no index may have signed another.
func (h *house) sign(msg []byte) bool {
	h.t.Helper()
	sig, e := h.signer.Sign(msg)
	if e != api.OK {
		if want := h.refusal(); e != want || len(sig) != 0 {
			h.t.Fatalf("error %d, want %d", e, want)
		}
		return false
	}
	q := indexOf(sig)
	if h.signs[q] || q >= h.synced {
		h.t.Fatalf("index %d signs, of %v, synced %d", q, h.signs, h.synced)
	}
	if e := lms.Verify(h.pub, msg, sig); e != api.OK {
		h.t.Fatalf("index %d: error %d", q, e)
	}
	h.signs[q] = true
	return true
}

// refusal is why there is no signature.
func (h *house) refusal() int {
	if h.signer.Next() == api.Leaves {
		return api.ErrEmpty
	}
	return api.ErrNone
}

// Promise 15.3 and T4: no index signs twice, wherever the house crashes: every five of these deeds, in every order.
func TestNoIndexSignsTwice(t *testing.T) {
	deeds := []func(*house){
		func(h *house) { h.sign([]byte("m")) },
		func(h *house) { h.ahead(1) },
		func(h *house) { h.ahead(2) },
		func(h *house) { h.sync(h.signer.Reserved() + 1); h.begin() }, // it crashed between the sync and Reserve
		func(h *house) { h.begin() },
	}
	for n := range 5 * 5 * 5 * 5 * 5 {
		h := founded(t, 1)
		for range 5 {
			deeds[n%5](h)
			n /= 5
		}
	}
}

// Promise 15.3 and T4: over many crashes, up to the end of the key: what was signed is never signed with again, and then it is told.
func TestNoIndexSignsTwiceToTheEnd(t *testing.T) {
	chance := rand.New(rand.NewSource(3))
	for round := range 60 {
		h := founded(t, widths[round%4])
		for h.signer.Next() < api.Leaves {
			h.ahead(chance.Intn(5))
			for h.sign([]byte{byte(round), byte(chance.Intn(256))}) && chance.Intn(6) != 0 {
			}
			if chance.Intn(3) == 0 {
				h.begin()
			}
		}
		for range 2 {
			refused(t, h.signer, nil, api.ErrEmpty)
			h.begin()
			stands(t, h.signer, 32, 32)
		}
	}
}

// Promise 15.3: what New is told is enough: a signer that begins anew at n goes on as one that came to n.
func TestBegunAnewGoesOn(t *testing.T) {
	for n := range 33 {
		came, begun := at(t, 1, 0, n), at(t, 1, n, n)
		for q := range n {
			signed(t, came, 1, q, []byte("m"))
		}
		stands(t, came, n, n)
		reserve(t, came, 32, api.OK)
		reserve(t, begun, 32, api.OK)
		for q := n; q < 32; q++ {
			signed(t, came, 1, q, []byte("m"))
			signed(t, begun, 1, q, []byte("m"))
		}
		refused(t, came, nil, api.ErrEmpty)
		refused(t, begun, nil, api.ErrEmpty)
	}
}

// Promise 15.3, and the chapter's Ways: of callers at the same time no two have one index, all that is reserved is had, and nothing above it.
func TestManySignAtOnce(t *testing.T) {
	for _, reserved := range []int{0, 1, 9, 31, 32} {
		k := at(t, 8, 0, reserved)
		var had [48]int // one more than the index that each had
		var wait sync.WaitGroup
		for n := range had {
			wait.Go(func() {
				if sig, e := k.Sign([]byte("m")); e == api.OK {
					had[n] = indexOf(sig) + 1
				}
			})
		}
		wait.Wait()
		eachOnce(t, had[:], reserved)
		stands(t, k, reserved, reserved)
	}
}

// eachOnce tells whether just the indices below n were had, each by one.
func eachOnce(t *testing.T, had []int, n int) {
	t.Helper()
	times := map[int]int{}
	for _, q := range had {
		times[q]++
	}
	for q := 1; q <= n; q++ {
		if times[q] != 1 {
			t.Fatalf("index %d was had %d times", q-1, times[q])
		}
	}
	if times[0] != len(had)-n {
		t.Fatalf("%d had none, of %d, with %d reserved", times[0], len(had), n)
	}
}

// together runs so many at the same time, none of them ahead of all others being there.
func together(n int, deed func(n int)) {
	var wait sync.WaitGroup
	var there atomic.Int32
	for m := range n {
		wait.Go(func() {
			there.Add(1)
			for int(there.Load()) < n {
				runtime.Gosched()
			}
			deed(m)
		})
	}
	wait.Wait()
}

// Promise 15.3, and the chapter's Ways: so often that who reads and writes in two steps is found; and there is one for each, who is not told that there is none.
func TestManyTakeAtOnce(t *testing.T) {
	for range 40000 {
		k := at(t, 8, 0, 32)
		var had [32]int
		together(8, func(n int) {
			for m := range 4 {
				if q, e := k.take(); e == api.OK {
					had[4*n+m] = q + 1
				}
			}
		})
		eachOnce(t, had[:], 32)
		stands(t, k, 32, 32)
	}
}

// Promise 15.1: Reserve of one number is right for all who ask it at the same time.
func TestManyReserveTheSame(t *testing.T) {
	for range 40000 {
		k := at(t, 8, 3, 3)
		together(8, func(int) {
			if e := k.Reserve(30); e != api.OK {
				t.Errorf("error %d, with %d reserved", e, k.Reserved())
			}
		})
		stands(t, k, 3, 30)
	}
}

// Promise 15.1: what is reserved at the same time is never taken back: each who was told OK finds at least that many, and the most of them stand.
func TestManyReserveAtOnce(t *testing.T) {
	for range 40000 {
		k := at(t, 8, 0, 0)
		var most [8]int
		together(8, func(n int) {
			for m := n; m <= 32; m += 3 {
				if k.Reserve(m) != api.OK {
					continue
				}
				if k.Reserved() < m {
					t.Errorf("%d were reserved, and are not", m)
				}
				most[n] = m
			}
		})
		stands(t, k, 0, slices.Max(most[:]))
	}
}

// Promises 15.1 to 15.3: who signs while others reserve gets each index once, and never more than is reserved.
func TestSignWhileReserving(t *testing.T) {
	for range 40000 {
		k := at(t, 8, 0, 0)
		var had [4][32]bool
		together(1+len(had), func(n int) {
			if n == len(had) {
				for m := range 33 {
					k.Reserve(m)
				}
				return
			}
			for range 40 {
				q, e := k.take()
				if e != api.OK {
					continue
				}
				if q >= k.Reserved() || had[n][q] {
					t.Errorf("index %d was had, with %d reserved", q, k.Reserved())
				}
				had[n][q] = true
			}
		})
		for q := range k.Next() {
			var times int
			for n := range had {
				if had[n][q] {
					times++
				}
			}
			if times != 1 {
				t.Fatalf("index %d was had %d times", q, times)
			}
		}
		if k.Next() > k.Reserved() || k.Reserved() != 32 {
			t.Fatalf("next %d, reserved %d", k.Next(), k.Reserved())
		}
	}
}
