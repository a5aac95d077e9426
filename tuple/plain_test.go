package tuple

import (
	"encoding/binary"

	"chirograph/api"
)

// What follows is chapter 6 once more, as plainly as can be, by its own numbers and the library's big-endian ones: what the tests hold the package against.

const (
	plainFields = 6
	plainText   = 40
	plainInt    = 1
	plainString = 2
	plainAInt   = 3
	plainAText  = 4
	plainAny    = 5
)

func plainMayField(f api.Field, template bool) bool {
	if f.Kind == plainInt {
		return len(f.S) == 0
	}
	if f.Kind == plainString {
		return f.N == 0 && len(f.S) <= plainText
	}
	if f.Kind == plainAInt || f.Kind == plainAText || f.Kind == plainAny {
		return template && f.N == 0 && len(f.S) == 0
	}
	return false
}

func plainMay(l []api.Field, template bool) bool {
	good := 0
	for i := 0; i < len(l); i++ {
		if plainMayField(l[i], template) {
			good++
		}
	}
	return good == len(l) && good > 0 && good <= plainFields
}

func plainMatch(p, t []api.Field) bool {
	if !plainMay(p, true) || !plainMay(t, false) || len(p) != len(t) {
		return false
	}
	for i := 0; i < len(p); i++ {
		number := t[i].Kind == plainInt
		same := p[i].Kind == t[i].Kind && p[i].N == t[i].N && p[i].S == t[i].S
		if !(same || p[i].Kind == plainAny || p[i].Kind == plainAInt && number || p[i].Kind == plainAText && !number) {
			return false
		}
	}
	return true
}

// plainPut writes fields whether they may be or not.
func plainPut(l []api.Field) []byte {
	b := []byte{byte(len(l))}
	for _, f := range l {
		b = append(b, byte(f.Kind))
		if f.Kind == plainInt {
			b = binary.BigEndian.AppendUint64(b, uint64(f.N))
		}
		if f.Kind == plainString {
			b = binary.BigEndian.AppendUint32(b, uint32(len(f.S)))
			b = append(b, f.S...)
		}
	}
	return b
}

// plainGet reads one field after the other, and tells whether it came out just at the end.
func plainGet(b []byte) ([]api.Field, bool) {
	if len(b) == 0 || b[0] < 1 || b[0] > plainFields {
		return nil, false
	}
	var l []api.Field
	rest := b[1:]
	for range int(b[0]) {
		if len(rest) == 0 {
			return nil, false
		}
		f := api.Field{Kind: int(rest[0])}
		rest = rest[1:]
		switch {
		case f.Kind == plainInt && len(rest) >= 8:
			f.N = int64(binary.BigEndian.Uint64(rest))
			rest = rest[8:]
		case f.Kind == plainString && len(rest) >= 4:
			size := binary.BigEndian.Uint32(rest)
			rest = rest[4:]
			if size > plainText || int(size) > len(rest) {
				return nil, false
			}
			f.S = string(rest[:size])
			rest = rest[size:]
		case f.Kind < plainAInt || f.Kind > plainAny:
			return nil, false
		}
		l = append(l, f)
	}
	return l, len(rest) == 0
}
