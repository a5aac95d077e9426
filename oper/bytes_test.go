package oper

import (
	"bytes"
	"math/rand"
	"reflect"
	"slices"
	"strings"
	"testing"

	"chirograph/api"
)

// put writes a request that may be.
func put(t *testing.T, r api.Request) []byte {
	t.Helper()
	b, e := Put(r)
	if e != api.OK {
		t.Fatalf("Put of %v: error %d", r, e)
	}
	return b
}

// get reads bytes that Put makes.
func get(t *testing.T, b []byte) api.Request {
	t.Helper()
	r, e := Get(b)
	if e != api.OK {
		t.Fatalf("Get of %x: error %d", b, e)
	}
	return r
}

// sameParts tells whether two requests are the same in all parts, asked by the library.
func sameParts(a, b api.Request) bool {
	p, t := slices.Equal(a.P, b.P), slices.Equal(a.T, b.T)
	a.P, a.T, b.P, b.T = nil, nil, nil, nil
	return p && t && reflect.DeepEqual(a, b)
}

// refused holds that Get takes no such bytes, and tells nothing of them.
func refused(t *testing.T, name string, b []byte) {
	t.Helper()
	if r, e := Get(b); e != api.ErrBad || !sameParts(r, api.Request{}) {
		t.Errorf("%s: %v, error %d", name, r, e)
	}
}

// alike holds Get against the plain one: it takes just what Put makes.
func alike(t *testing.T, b []byte) {
	t.Helper()
	want, ok := plainGet(b)
	r, e := Get(b)
	if !ok {
		if e != api.ErrBad || !sameParts(r, api.Request{}) {
			t.Fatalf("%x: %v, error %d", b, r, e)
		}
		return
	}
	if e != api.OK || !sameParts(r, want) {
		t.Fatalf("%x: %v, error %d, want %v", b, r, e, want)
	}
	if again := put(t, r); !bytes.Equal(again, b) {
		t.Fatalf("%x: written again: %x", b, again)
	}
}

const (
	noFields = "\x00\x00\x00\x00"
	noLease  = "\x00\x00\x00\x00\x00\x00\x00\x00"
)

// Promise 7.2: the bytes of each kind.
func TestPutBytes(t *testing.T) {
	seven := "\x00\x00\x00\x0a\x01\x01\x00\x00\x00\x00\x00\x00\x00\x07"
	a := "\x00\x00\x00\x07\x01\x02\x00\x00\x00\x01a"
	open := "\x00\x00\x00\x02\x01\x05"
	for _, k := range []struct {
		r    api.Request
		want string
	}{
		{api.Request{Client: 0, Seq: 1, Kind: api.Nop}, "\x00\x00\x00\x00\x01\x08" + noLease + noFields + noFields},
		{api.Request{Client: 3, Seq: 1 << 30, Kind: api.Nop}, "\x03\x40\x00\x00\x00\x08" + noLease + noFields + noFields},
		{api.Request{Client: 1, Seq: 0x01020304, Kind: api.Out, T: []api.Field{number(7)}}, "\x01\x01\x02\x03\x04\x01" + noLease + noFields + seven},
		{api.Request{Client: 1, Seq: 2, Kind: api.Out, T: []api.Field{text("a")}, Lease: 1 << 40}, "\x01\x00\x00\x00\x02\x01\x00\x00\x01\x00\x00\x00\x00\x00" + noFields + a},
		{api.Request{Client: 1, Seq: 2, Kind: api.Out, T: []api.Field{text("a")}, Lease: 0x0102030405}, "\x01\x00\x00\x00\x02\x01\x00\x00\x00\x01\x02\x03\x04\x05" + noFields + a},
		{api.Request{Client: 2, Seq: 5, Kind: api.Rdp, P: []api.Field{number(7)}}, "\x02\x00\x00\x00\x05\x02" + noLease + seven + noFields},
		{api.Request{Client: 2, Seq: 5, Kind: api.Inp, P: []api.Field{anyOne}}, "\x02\x00\x00\x00\x05\x03" + noLease + open + noFields},
		{api.Request{Client: 2, Seq: 5, Kind: api.Rd, P: []api.Field{text("a")}}, "\x02\x00\x00\x00\x05\x04" + noLease + a + noFields},
		{api.Request{Client: 2, Seq: 256, Kind: api.In, P: []api.Field{anyOne}}, "\x02\x00\x00\x01\x00\x05" + noLease + open + noFields},
		{api.Request{Client: 2, Seq: 5, Kind: api.Cas, P: []api.Field{anyOne}, T: []api.Field{number(7)}, Lease: 9}, "\x02\x00\x00\x00\x05\x06\x00\x00\x00\x00\x00\x00\x00\x09" + open + seven},
		{api.Request{Client: 2, Seq: 5, Kind: api.Replace, P: []api.Field{number(7)}, T: []api.Field{text("a")}}, "\x02\x00\x00\x00\x05\x07" + noLease + seven + a},
	} {
		if b := put(t, k.r); string(b) != k.want {
			t.Errorf("Put of %v: %x, want %x", k.r, b, k.want)
		}
		if r := get(t, []byte(k.want)); !sameParts(r, k.r) {
			t.Errorf("Get of %x: %v", k.want, r)
		}
	}
}

// Promise 7.2: an empty list is written as none.
func TestPutOfEmptyLists(t *testing.T) {
	for kind := 1; kind <= 8; kind++ {
		bare, r := requestOf(kind), requestOf(kind)
		if len(r.P) == 0 {
			r.P = []api.Field{}
		}
		if len(r.T) == 0 {
			r.T = []api.Field{}
		}
		if !bytes.Equal(put(t, r), put(t, bare)) {
			t.Errorf("%s: %x", kindNames[kind], put(t, r))
		}
	}
}

// Promise 7.2: Put takes what may be, and nothing else.
func TestPutWrong(t *testing.T) {
	for kind := -1; kind <= 10; kind++ {
		for _, p := range lists() {
			for _, l := range lists() {
				for _, k := range []struct{ client, seq, lease int }{{0, 1, 0}, {3, 1 << 30, 1 << 40}, {-1, 1, 0}, {4, 1, 0}, {256, 1, 0}, {0, 0, 0}, {0, 1<<30 + 1, 0}, {0, 1<<32 + 1, 0}, {0, 1, -1}, {0, 1, 1<<40 + 1}} {
					r := api.Request{Client: k.client, Seq: k.seq, Kind: kind, P: p, T: l, Lease: k.lease}
					b, e := Put(r)
					if plainMay(r) {
						if e != api.OK || !bytes.Equal(b, plainPut(r)) {
							t.Fatalf("%v: %x, error %d", r, b, e)
						}
					} else if e != api.ErrArg || len(b) != 0 {
						t.Fatalf("%v: %x, error %d", r, b, e)
					}
				}
			}
		}
	}
}

// Promise 7.2: bytes that no Put makes.
func TestGetWrong(t *testing.T) {
	nop := "\x00\x00\x00\x00\x01\x08" + noLease
	one := "\x00\x00\x00\x0a\x01\x01\x00\x00\x00\x00\x00\x00\x00\x07"
	open := "\x00\x00\x00\x02\x01\x05"
	for name, b := range map[string]string{
		"nothing":                      "",
		"a byte":                       "\x00",
		"Nop without fields":           nop,
		"Nop without T":                nop + noFields,
		"a byte behind":                nop + noFields + noFields + "\x00",
		"a third text":                 nop + noFields + noFields + noFields,
		"Client 4":                     "\x04" + nop[1:] + noFields + noFields,
		"Client 255":                   "\xff" + nop[1:] + noFields + noFields,
		"Seq 0":                        "\x00\x00\x00\x00\x00" + nop[5:] + noFields + noFields,
		"Seq 2^30 + 1":                 "\x00\x40\x00\x00\x01" + nop[5:] + noFields + noFields,
		"Seq 2^32 - 1":                 "\x00\xff\xff\xff\xff" + nop[5:] + noFields + noFields,
		"Kind 0":                       "\x00\x00\x00\x00\x01\x00" + noLease + noFields + noFields,
		"Kind 9":                       "\x00\x00\x00\x00\x01\x09" + noLease + noFields + noFields,
		"Kind 255":                     "\x00\x00\x00\x00\x01\xff" + noLease + noFields + noFields,
		"Nop with a Lease":             "\x00\x00\x00\x00\x01\x08\x00\x00\x00\x00\x00\x00\x00\x01" + noFields + noFields,
		"Nop with P":                   nop + open + noFields,
		"Nop with T":                   nop + noFields + one,
		"Out without T":                "\x00\x00\x00\x00\x01\x01" + noLease + noFields + noFields,
		"Out with P":                   "\x00\x00\x00\x00\x01\x01" + noLease + open + one,
		"Out of a template":            "\x00\x00\x00\x00\x01\x01" + noLease + noFields + open,
		"Out with a Lease of 2^40 + 1": "\x00\x00\x00\x00\x01\x01\x00\x00\x01\x00\x00\x00\x00\x01" + noFields + one,
		"Out with a Lease of 2^63":     "\x00\x00\x00\x00\x01\x01\x80\x00\x00\x00\x00\x00\x00\x00" + noFields + one,
		"Out with a Lease of 2^64 - 1": "\x00\x00\x00\x00\x01\x01\xff\xff\xff\xff\xff\xff\xff\xff" + noFields + one,
		"Rd without P":                 "\x00\x00\x00\x00\x01\x04" + noLease + noFields + noFields,
		"Rd with T":                    "\x00\x00\x00\x00\x01\x04" + noLease + open + one,
		"In with a Lease":              "\x00\x00\x00\x00\x01\x05\x00\x00\x00\x00\x00\x00\x00\x01" + open + noFields,
		"Cas without P":                "\x00\x00\x00\x00\x01\x06" + noLease + noFields + one,
		"Cas without T":                "\x00\x00\x00\x00\x01\x06" + noLease + open + noFields,
		"Cas of a template":            "\x00\x00\x00\x00\x01\x06" + noLease + open + open,
		"Replace without P":            "\x00\x00\x00\x00\x01\x07" + noLease + noFields + one,
		"P of no fields":               "\x00\x00\x00\x00\x01\x04" + noLease + "\x00\x00\x00\x01\x00" + noFields,
		"Nop with a P of no fields":    nop + "\x00\x00\x00\x01\x00" + noFields,
		"Nop with a T of no fields":    nop + noFields + "\x00\x00\x00\x01\x00",
		"P with a byte behind":         "\x00\x00\x00\x00\x01\x04" + noLease + "\x00\x00\x00\x03\x01\x05\x00" + noFields,
		"P of kind 6":                  "\x00\x00\x00\x00\x01\x04" + noLease + "\x00\x00\x00\x02\x01\x06" + noFields,
		"P that is cut":                "\x00\x00\x00\x00\x01\x04" + noLease + "\x00\x00\x00\x01\x01" + noFields,
		"P of all that is left":        "\x00\x00\x00\x00\x01\x04" + noLease + "\x00\x00\x00\x06\x01\x05" + noFields,
		"P of more than is left":       "\x00\x00\x00\x00\x01\x04" + noLease + "\x00\x00\x00\x07\x01\x05" + noFields,
		"P of 2^32 - 1 bytes":          "\x00\x00\x00\x00\x01\x04" + noLease + "\xff\xff\xff\xff\x01\x05" + noFields,
		"T of 2^31 bytes":              nop + noFields + "\x80\x00\x00\x00",
		"P and T are turned":           "\x00\x00\x00\x00\x01\x04" + noLease + noFields + open,
		"7 fields":                     "\x00\x00\x00\x00\x01\x04" + noLease + "\x00\x00\x00\x08\x07\x05\x05\x05\x05\x05\x05\x05" + noFields,
		"a text of 41":                 "\x00\x00\x00\x00\x01\x01" + noLease + noFields + "\x00\x00\x00\x2f\x01\x02\x00\x00\x00\x29" + strings.Repeat("x", 41),
		"Client of 2 bytes":            "\x00\x00\x00\x00\x00\x01\x08" + noLease + noFields + noFields,
		"Kind of 2 bytes":              "\x00\x00\x00\x00\x01\x00\x08" + noLease + noFields + noFields,
		"Lease of 4 bytes":             "\x00\x00\x00\x00\x01\x08\x00\x00\x00\x00" + noFields + noFields,
	} {
		refused(t, name, []byte(b))
	}
	refused(t, "nil", nil)
	refused(t, "a million noughts", make([]byte, 1<<20))
	refused(t, "a million ones", bytes.Repeat([]byte{1}, 1<<20))
}

// Promise 7.2: the numbers ahead in all of their bytes, one turned after the other, for each kind.
func TestGetOfNumbersAhead(t *testing.T) {
	for kind := 1; kind <= 8; kind++ {
		b := put(t, requestOf(kind))
		for at := range 14 {
			for c := range 256 {
				other := slices.Clone(b)
				other[at] = byte(c)
				alike(t, other)
			}
		}
	}
}

// Promise 7.2: bytes of Put that are cut, longer, turned in one byte, or without one.
func TestGetOfTurnedBytes(t *testing.T) {
	chance := rand.New(rand.NewSource(73))
	for range 300 {
		b := put(t, randomRequest(chance))
		for n := range b {
			refused(t, "cut", b[:n])
			alike(t, b[n:])
			alike(t, slices.Concat(b[:n], b[n+1:]))
			for range 8 {
				other := slices.Clone(b)
				other[n] = byte(chance.Intn(256))
				alike(t, other)
				other[n] = byte(chance.Intn(9))
				alike(t, other)
			}
		}
		for c := range 256 {
			refused(t, "longer", append(b[:len(b):len(b)], byte(c)))
		}
		refused(t, "twice", slices.Concat(b, b))
	}
}

// Promise 7.3: they come back, of each kind at its edges.
func TestTheyComeBackAtTheEdges(t *testing.T) {
	for kind := 1; kind <= 8; kind++ {
		for _, client := range []int{0, 1, 3} {
			for _, seq := range []int{1, 255, 256, 1 << 16, 1<<30 - 1, 1 << 30} {
				for _, lease := range []int{0, 1, 255, 1 << 32, 1<<40 - 1, 1 << 40} {
					r := requestOf(kind)
					r.Client, r.Seq = client, seq
					if len(r.T) > 0 {
						r.Lease = lease
					}
					if back := get(t, put(t, r)); !sameParts(back, r) || !Same(back, r) {
						t.Fatalf("%v: %v", r, back)
					}
				}
			}
		}
	}
}

// Promise 7.3: they come back, and no two have the same bytes.
func TestTheyComeBack(t *testing.T) {
	chance := rand.New(rand.NewSource(74))
	seen := map[string]api.Request{}
	for range 20000 {
		r := randomRequest(chance)
		b := put(t, r)
		if !bytes.Equal(b, plainPut(r)) {
			t.Fatalf("%v: %x", r, b)
		}
		back := get(t, b)
		if !sameParts(back, r) || !Same(back, r) || !May(back) {
			t.Fatalf("%v: %v", r, back)
		}
		if other, ok := seen[string(b)]; ok && !sameParts(other, r) {
			t.Fatalf("%v and %v: %x", r, other, b)
		}
		seen[string(b)] = r
	}
}

// Promise 7.3 (and rule 2): what comes back is the caller's own.
func TestTheyShareNothing(t *testing.T) {
	r := requestOf(api.Cas)
	first, second := put(t, r), put(t, r)
	want := string(first)
	clear(first[:cap(first)])
	if string(second) != want || string(put(t, r)) != want {
		t.Error("two answers of Put share bytes")
	}
	b := []byte(want)
	one, other := get(t, b), get(t, b)
	if string(b) != want {
		t.Error("Get changes what is handed in")
	}
	clear(b)
	if !sameParts(one, r) {
		t.Errorf("Get keeps what was handed in: %v", one)
	}
	clear(one.P[:cap(one.P)])
	if !slices.Equal(one.T, r.T) {
		t.Error("P and T of an answer share fields")
	}
	clear(one.T[:cap(one.T)])
	if !sameParts(other, r) {
		t.Error("two answers of Get share fields")
	}
}
