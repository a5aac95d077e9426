package entry

import (
	"crypto/sha256"
	"encoding/binary"

	"chirograph/api"
	"chirograph/oper"
	"chirograph/space"
)

// What follows is chapter 11 once more, as plainly as can be, by its own numbers and the library's: what the tests hold the package against.

const plainMaxTime = 1099511627776

func plainMay(e api.Entry) bool {
	if e.Now < 0 || e.Now > plainMaxTime || len(e.List) == 0 || len(e.List) > 8 {
		return false
	}
	for n := 0; n < len(e.List); n++ {
		if !oper.May(e.List[n]) {
			return false
		}
	}
	return true
}

// plainPut writes entries of requests that may be, whether they may be themselves or not.
func plainPut(e api.Entry) []byte {
	b := binary.BigEndian.AppendUint64(nil, uint64(e.Now))
	b = append(b, byte(len(e.List)))
	for n := 0; n < len(e.List); n++ {
		one, _ := oper.Put(e.List[n])
		b = binary.BigEndian.AppendUint32(b, uint32(len(one)))
		b = append(b, one...)
	}
	return b
}

// plainGet tells, too, whether the bytes are such as are made of an entry that may be.
func plainGet(b []byte) (api.Entry, bool) {
	if len(b) < 9 || binary.BigEndian.Uint64(b) > plainMaxTime {
		return api.Entry{}, false
	}
	e := api.Entry{Now: int(binary.BigEndian.Uint64(b))}
	many := int(b[8])
	b = b[9:]
	for n := 0; n < many; n++ {
		if len(b) < 4 || int(binary.BigEndian.Uint32(b)) > len(b)-4 {
			return api.Entry{}, false
		}
		size := int(binary.BigEndian.Uint32(b))
		r, fault := oper.Get(b[4 : 4+size])
		if fault != 0 {
			return api.Entry{}, false
		}
		e.List = append(e.List, r)
		b = b[4+size:]
	}
	if many < 1 || many > 8 || len(b) > 0 {
		return api.Entry{}, false
	}
	return e, true
}

func plainSum(b []byte) api.Hash {
	return sha256.Sum256([]byte("ENTR" + string(b)))
}

func plainApply(s api.Space, e api.Entry) (api.Space, []api.Reply, int) {
	if !space.May(s) || !plainMay(e) {
		return s, nil, 1
	}
	if s.Now > e.Now {
		return s, nil, 7
	}
	spaces := []api.Space{s}
	var told []api.Reply
	for n := 0; n < len(e.List); n++ {
		behind, replies := space.Do(spaces[n], e.Now, e.List[n])
		spaces = append(spaces, behind)
		told = append(told, replies...)
	}
	return spaces[len(e.List)], told, 0
}
