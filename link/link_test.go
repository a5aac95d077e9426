package link

import (
	"math/rand"
	"reflect"
	"slices"
	"strings"
	"testing"

	"chirograph/api"
	"chirograph/sha"
)

func full() api.Hash {
	var h api.Hash
	for n := range h {
		h[n] = 0xff
	}
	return h
}

// Promise 12.1: digests that another program made.
func TestNextKnown(t *testing.T) {
	for _, k := range []struct {
		ahead, sum, digest api.Hash
		want               string
	}{
		{want: "51ba7ddd967b69479057fe3962dee16c138fa90fadd2251427ad28971c07f865"},
		{hashOf(0), hashOf(32), hashOf(64), "9f82e0f0d45c291453447e0d16427eae31a7364b0d92e3a62f6732f2038ccd9a"},
		{hashOf(64), hashOf(32), hashOf(0), "4c474f2954d3a2442f9a75fdf8fbd8b039b9459e643290eb55816d063417058b"},
		{full(), full(), full(), "de77f8680ad2cd819e38a7935012fc708360e667bacb6594ce5b08c1d247deea"},
	} {
		if got := sha.Hex(Next(k.ahead, k.sum, k.digest)); got != k.want {
			t.Errorf("%x, %x, %x: %s, want %s", k.ahead, k.sum, k.digest, got, k.want)
		}
	}
}

// Promise 12.1: of any three.
func TestNextOfChance(t *testing.T) {
	chance := rand.New(rand.NewSource(121))
	for range 2000 {
		ahead, sum, digest := randomHash(chance), randomHash(chance), randomHash(chance)
		if got := Next(ahead, sum, digest); got != plainNext(ahead, sum, digest) || got != Next(ahead, sum, digest) {
			t.Fatalf("%x, %x, %x: %x", ahead, sum, digest, got)
		}
	}
}

// Promise 12.1, 12.4: each bit of the three, and which stands where, makes another link.
func TestNextOfEachBit(t *testing.T) {
	three := [3]api.Hash{hashOf(1), hashOf(40), hashOf(80)}
	seen := map[api.Hash]int{}
	for part := range three {
		for at := range three[part] {
			for bit := range 8 {
				turned := three
				turned[part][at] ^= 1 << bit
				seen[Next(turned[0], turned[1], turned[2])]++
			}
		}
	}
	for _, order := range [][3]int{{0, 1, 2}, {0, 2, 1}, {1, 0, 2}, {1, 2, 0}, {2, 0, 1}, {2, 1, 0}} {
		seen[Next(three[order[0]], three[order[1]], three[order[2]])]++
	}
	if len(seen) != 3*32*8+6 {
		t.Errorf("%d links", len(seen))
	}
}

// Promise 12.3: of nothing, just what is ahead.
func TestChainOfNothing(t *testing.T) {
	for _, ahead := range []api.Hash{{}, hashOf(0), full()} {
		for _, l := range [][]api.Step{nil, {}, make([]api.Step, 0, 5)} {
			if got := Chain(ahead, l); !slices.Equal(got, []api.Hash{ahead}) {
				t.Errorf("%x", got)
			}
		}
	}
}

// Promise 12.3: links that another program made, of entries that are none: nothing is checked.
func TestChainKnown(t *testing.T) {
	l := []api.Step{
		{},
		{Entry: []byte("nothing"), Digest: hashOf(32), Votes: []api.Vote{{Place: -1, From: 99, Link: full(), Sig: []byte("none")}}},
		{Entry: make([]byte, 100), Digest: full()},
	}
	want := []string{
		"000102030405060708090a0b0c0d0e0f101112131415161718191a1b1c1d1e1f",
		"bdc240b098cdc59303eb351b811096e1b1994f022aff38e9b1a47541a16a0933",
		"72840e42be896b52141d5c04d8ae73ef72c8706f36e317a3ba901f9393449869",
		"30c8c9290d2912bc46f42bd8daca6b3a728e033d06e894902c4c211767c6cd69",
	}
	for many := range 4 {
		var got []string
		for _, h := range Chain(hashOf(0), l[:many]) {
			got = append(got, sha.Hex(h))
		}
		if !slices.Equal(got, want[:many+1]) {
			t.Errorf("%d: %s", many, strings.Join(got, " "))
		}
	}
	l[0].Entry, l[1].Votes = []byte{}, nil
	if got := Chain(hashOf(0), l); sha.Hex(got[3]) != want[3] {
		t.Errorf("empty for nil, and no votes: %x", got)
	}
}

// randomSteps are of any bytes.
func randomSteps(chance *rand.Rand, most int) []api.Step {
	var l []api.Step
	for range chance.Intn(most + 1) {
		step := api.Step{Digest: randomHash(chance), Entry: make([]byte, []int{0, 1, chance.Intn(100), 20001}[chance.Intn(4)])}
		chance.Read(step.Entry)
		for from := range chance.Intn(4) {
			step.Votes = append(step.Votes, api.Vote{Place: chance.Int(), From: from, Link: randomHash(chance), Sig: make([]byte, chance.Intn(9))})
		}
		l = append(l, step)
	}
	return l
}

// Promise 12.3: steps of any bytes; whatever the votes; and cut anywhere, the second part goes on from the first.
func TestChainOfChance(t *testing.T) {
	chance := rand.New(rand.NewSource(123))
	for range 500 {
		ahead, l := randomHash(chance), randomSteps(chance, 12)
		got := Chain(ahead, l)
		if !slices.Equal(got, plainChain(ahead, l)) {
			t.Fatalf("%x, %v: %x", ahead, l, got)
		}
		cut := chance.Intn(len(l) + 1)
		first := Chain(ahead, l[:cut])
		if parts := append(first, Chain(first[cut], l[cut:])[1:]...); !slices.Equal(parts, got) {
			t.Fatalf("%x, %v, cut at %d: %x, want %x", ahead, l, cut, parts, got)
		}
		for n := range l {
			l[n].Votes = nil
		}
		if !slices.Equal(Chain(ahead, l), got) {
			t.Fatalf("%x, %v: without votes", ahead, l)
		}
	}
}

// Promise 12.3: many steps.
func TestChainOfMany(t *testing.T) {
	l := make([]api.Step, 5000)
	for n := range l {
		l[n] = api.Step{Entry: []byte{byte(n), byte(n >> 8)}, Digest: hashOf(byte(n))}
	}
	if got := Chain(api.Hash{}, l); !slices.Equal(got, plainChain(api.Hash{}, l)) {
		t.Errorf("%d links", len(got))
	}
}

// Promise 12.3 (and rule 2): what is handed in is not changed, also behind its end, and what is answered is the caller's own.
func TestChainIsTheCallersOwn(t *testing.T) {
	chance := rand.New(rand.NewSource(124))
	for range 200 {
		ahead, l := randomHash(chance), append(randomSteps(chance, 6), api.Step{Entry: []byte("behind"), Digest: hashOf(7)})
		was, in := make([]api.Step, len(l)), make([]api.Step, len(l))
		for n := range l {
			l[n].Entry = append(l[n].Entry, 77)
			was[n] = api.Step{Entry: slices.Clone(l[n].Entry), Digest: l[n].Digest, Votes: slices.Clone(l[n].Votes)}
			in[n] = l[n]
			in[n].Entry = l[n].Entry[:len(l[n].Entry)-1]
		}
		handed := slices.Clone(in)
		got := Chain(ahead, in[:len(in)-1])
		want := slices.Clone(got)
		if !reflect.DeepEqual(l, was) || !reflect.DeepEqual(in, handed) {
			t.Fatalf("%v: %v", was, l)
		}
		clear(got[:cap(got)])
		if again := Chain(ahead, in[:len(in)-1]); !slices.Equal(again, want) {
			t.Fatalf("%v: %x, want %x", was, again, want)
		}
	}
}
