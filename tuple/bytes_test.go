package tuple

import (
	"bytes"
	"math"
	"math/rand"
	"slices"
	"strings"
	"testing"

	"chirograph/api"
)

// put writes fields that may be written.
func put(t *testing.T, l []api.Field) []byte {
	t.Helper()
	b, e := Put(l)
	if e != api.OK {
		t.Fatalf("Put of %v: error %d", l, e)
	}
	return b
}

// get reads bytes that Put makes.
func get(t *testing.T, b []byte) []api.Field {
	t.Helper()
	l, e := Get(b)
	if e != api.OK {
		t.Fatalf("Get of %x: error %d", b, e)
	}
	return l
}

// refused holds that Get takes no such bytes, and tells nothing of them.
func refused(t *testing.T, name string, b []byte) {
	t.Helper()
	if l, e := Get(b); e != api.ErrBad || len(l) != 0 {
		t.Errorf("%s: %v, error %d", name, l, e)
	}
}

// Promise 6.2: each kind's bytes.
func TestPutBytes(t *testing.T) {
	forty := strings.Repeat("x", 40)
	for _, k := range []struct {
		l    []api.Field
		want string
	}{
		{[]api.Field{number(7)}, "\x01\x01\x00\x00\x00\x00\x00\x00\x00\x07"},
		{[]api.Field{number(0)}, "\x01\x01\x00\x00\x00\x00\x00\x00\x00\x00"},
		{[]api.Field{number(0x0102030405060708)}, "\x01\x01\x01\x02\x03\x04\x05\x06\x07\x08"},
		{[]api.Field{number(-1)}, "\x01\x01\xff\xff\xff\xff\xff\xff\xff\xff"},
		{[]api.Field{number(-2)}, "\x01\x01\xff\xff\xff\xff\xff\xff\xff\xfe"},
		{[]api.Field{number(math.MaxInt64)}, "\x01\x01\x7f\xff\xff\xff\xff\xff\xff\xff"},
		{[]api.Field{number(math.MinInt64)}, "\x01\x01\x80\x00\x00\x00\x00\x00\x00\x00"},
		{[]api.Field{text("")}, "\x01\x02\x00\x00\x00\x00"},
		{[]api.Field{text("ab")}, "\x01\x02\x00\x00\x00\x02ab"},
		{[]api.Field{text("\xff\x00")}, "\x01\x02\x00\x00\x00\x02\xff\x00"},
		{[]api.Field{text(forty)}, "\x01\x02\x00\x00\x00\x28" + forty},
		{[]api.Field{anyInt}, "\x01\x03"},
		{[]api.Field{anyText}, "\x01\x04"},
		{[]api.Field{anyOne}, "\x01\x05"},
		{[]api.Field{anyInt, text("a")}, "\x02\x03\x02\x00\x00\x00\x01a"},
		{
			[]api.Field{text("a"), number(258), anyOne, anyText, anyInt, text("")},
			"\x06\x02\x00\x00\x00\x01a\x01\x00\x00\x00\x00\x00\x00\x01\x02\x05\x04\x03\x02\x00\x00\x00\x00",
		},
	} {
		if b := put(t, k.l); string(b) != k.want {
			t.Errorf("Put of %v: %x, want %x", k.l, b, k.want)
		}
		if l := get(t, []byte(k.want)); !slices.Equal(l, k.l) {
			t.Errorf("Get of %x: %v", k.want, l)
		}
	}
}

// Promise 6.2: Put takes what a template may be, and nothing else.
func TestPutWrong(t *testing.T) {
	for _, f := range allFields() {
		for n := range 9 {
			l := slices.Repeat([]api.Field{anyOne}, n)
			if n > 0 {
				l[n-1] = f
			}
			b, e := Put(l)
			if plainMay(l, true) {
				if e != api.OK || !bytes.Equal(b, plainPut(l)) {
					t.Fatalf("%v: %x, error %d", l, b, e)
				}
			} else if e != api.ErrArg || len(b) != 0 {
				t.Fatalf("%v: %x, error %d", l, b, e)
			}
		}
	}
	if b, e := Put(nil); e != api.ErrArg || len(b) != 0 {
		t.Errorf("nil: %x, error %d", b, e)
	}
	if b, e := Put(make([]api.Field, 256+3)); e != api.ErrArg || len(b) != 0 {
		t.Errorf("259 fields: %x, error %d", b, e)
	}
}

// Promise 6.2: bytes that no Put makes.
func TestGetWrong(t *testing.T) {
	forty := strings.Repeat("x", 40)
	for name, b := range map[string]string{
		"nothing":                                "",
		"no fields":                              "\x00",
		"no fields, and one":                     "\x00\x03",
		"7 fields":                               "\x07\x03\x03\x03\x03\x03\x03\x03",
		"255 fields":                             "\xff" + strings.Repeat("\x03", 255),
		"more fields than there are":             "\x02\x03",
		"fewer fields than there are":            "\x01\x03\x03",
		"no field":                               "\x01",
		"a byte behind":                          "\x01\x03\x00",
		"kind 0":                                 "\x01\x00",
		"kind 6":                                 "\x01\x06",
		"kind 255":                               "\x01\xff",
		"kind 6 behind others":                   "\x03\x03\x04\x06",
		"a number of 7 bytes":                    "\x01\x01\x00\x00\x00\x00\x00\x00\x07",
		"a number of 9 bytes":                    "\x01\x01\x00\x00\x00\x00\x00\x00\x00\x00\x07",
		"a number without bytes":                 "\x01\x01",
		"any number, with one":                   "\x01\x03\x00\x00\x00\x00\x00\x00\x00\x00",
		"any text, with one":                     "\x01\x04\x00\x00\x00\x00",
		"a length of 3 bytes":                    "\x01\x02\x00\x00\x00",
		"a text that is cut":                     "\x01\x02\x00\x00\x00\x02a",
		"a text that is longer than it tells":    "\x01\x02\x00\x00\x00\x01ab",
		"41 bytes":                               "\x01\x02\x00\x00\x00\x29" + forty + "x",
		"296 bytes, of which 40":                 "\x01\x02\x00\x00\x01\x28" + forty,
		"296 bytes":                              "\x01\x02\x00\x00\x01\x28" + forty + strings.Repeat("x", 256),
		"2^31 bytes":                             "\x01\x02\x80\x00\x00\x00",
		"2^32 - 1 bytes":                         "\x01\x02\xff\xff\xff\xffa",
		"a length with its least byte first":     "\x01\x02\x01\x00\x00\x00a",
		"how many in two bytes":                  "\x00\x01\x03",
		"a kind in two bytes":                    "\x01\x00\x03",
		"good fields, the last text of 41 bytes": "\x02\x05\x02\x00\x00\x00\x29" + forty + "x",
	} {
		refused(t, name, []byte(b))
	}
	refused(t, "nil", nil)
	refused(t, "a million noughts", make([]byte, 1<<20))
	refused(t, "a million ones", bytes.Repeat([]byte{1}, 1<<20))
}

// alike holds Get against the plain one: it takes just what Put makes.
func alike(t *testing.T, b []byte) {
	t.Helper()
	want, ok := plainGet(b)
	l, e := Get(b)
	if !ok {
		if e != api.ErrBad || len(l) != 0 {
			t.Fatalf("%x: %v, error %d", b, l, e)
		}
		return
	}
	if e != api.OK || !slices.Equal(l, want) {
		t.Fatalf("%x: %v, error %d, want %v", b, l, e, want)
	}
	if again := put(t, l); !bytes.Equal(again, b) {
		t.Fatalf("%x: written again: %x", b, again)
	}
}

// Promise 6.2: all of one and of two bytes; behind a few beginnings all of bytes below 8, up to seven in all.
func TestGetOfShortBytes(t *testing.T) {
	for a := range 256 {
		alike(t, []byte{byte(a)})
		for b := range 256 {
			alike(t, []byte{byte(a), byte(b)})
		}
	}
	var longer func(b []byte)
	longer = func(b []byte) {
		alike(t, b)
		if len(b) == 7 {
			return
		}
		for c := range byte(8) {
			longer(append(b[:len(b):len(b)], c))
		}
	}
	for _, begin := range []string{"\x01", "\x02", "\x03", "\x02\x02\x00\x00", "\x06\x03\x04\x05", "\x07"} {
		longer([]byte(begin))
	}
}

// Promise 6.2: bytes of Put that are cut, longer, or turned in one byte.
func TestGetOfTurnedBytes(t *testing.T) {
	chance := rand.New(rand.NewSource(63))
	for range 300 {
		b := put(t, randomList(chance, true))
		for n := range b {
			refused(t, "cut", b[:n])
			for range 16 {
				other := slices.Clone(b)
				other[n] = byte(chance.Intn(256))
				alike(t, other)
				other[n] = byte(chance.Intn(8))
				alike(t, other)
			}
		}
		for c := range 256 {
			refused(t, "longer", append(b[:len(b):len(b)], byte(c)))
		}
		refused(t, "twice", slices.Concat(b, b))
	}
}

// Promise 6.3: they come back, each field that may be at each place.
func TestTheyComeBackFieldByField(t *testing.T) {
	for _, f := range fieldsThat(true) {
		for n := 1; n <= api.MaxFields; n++ {
			for at := range n {
				l := slices.Repeat([]api.Field{text("beside")}, n)
				l[at] = f
				if back := get(t, put(t, l)); !slices.Equal(back, l) || !Same(back, l) {
					t.Fatalf("%v: %v", l, back)
				}
			}
		}
	}
}

// Promise 6.3: they come back, and no two have the same bytes.
func TestTheyComeBack(t *testing.T) {
	chance := rand.New(rand.NewSource(64))
	seen := map[string][]api.Field{}
	for range 20000 {
		l := randomList(chance, chance.Intn(2) == 0)
		b := put(t, l)
		if !bytes.Equal(b, plainPut(l)) {
			t.Fatalf("%v: %x", l, b)
		}
		if back := get(t, b); !slices.Equal(back, l) {
			t.Fatalf("%v: %v", l, back)
		}
		if other, ok := seen[string(b)]; ok && !slices.Equal(other, l) {
			t.Fatalf("%v and %v: %x", l, other, b)
		}
		seen[string(b)] = l
	}
}

// Promise 6.3 (and rule 2): what comes back is the caller's own.
func TestTheyShareNothing(t *testing.T) {
	l := []api.Field{number(7), text("abc"), anyOne}
	first, second := put(t, l), put(t, l)
	want := string(first)
	clear(first[:cap(first)])
	if string(second) != want || string(put(t, l)) != want {
		t.Error("two answers of Put share bytes")
	}
	b := []byte(want)
	one, other := get(t, b), get(t, b)
	if string(b) != want {
		t.Error("Get changes what is handed in")
	}
	clear(b)
	if !slices.Equal(one, l) {
		t.Errorf("Get keeps what was handed in: %v", one)
	}
	clear(one[:cap(one)])
	if !slices.Equal(other, l) {
		t.Error("two answers of Get share fields")
	}
}
