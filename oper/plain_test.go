package oper

import (
	"encoding/binary"

	"chirograph/api"
	"chirograph/tuple"
)

// What follows is chapter 7 once more, as plainly as can be, by its own numbers and the library's big-endian ones: what the tests hold the package against.

const (
	plainOut     = 1
	plainRdp     = 2
	plainInp     = 3
	plainRd      = 4
	plainIn      = 5
	plainCas     = 6
	plainReplace = 7
	plainNop     = 8

	plainMaxLease = 1 << 40
)

func plainReads(kind int) bool {
	return kind == plainRdp || kind == plainInp || kind == plainRd || kind == plainIn || kind == plainCas || kind == plainReplace
}

func plainWrites(kind int) bool {
	return kind == plainOut || kind == plainInp || kind == plainIn || kind == plainCas || kind == plainReplace
}

func plainMay(r api.Request) bool {
	if r.Client < 0 || r.Client > 3 || r.Seq < 1 || r.Seq > 1073741824 || r.Kind < 1 || r.Kind > 8 {
		return false
	}
	switch r.Kind {
	case plainOut:
		return len(r.P) == 0 && tuple.May(r.T) && r.Lease >= 0 && r.Lease <= plainMaxLease
	case plainRdp, plainInp, plainRd, plainIn:
		return tuple.MayTemplate(r.P) && len(r.T) == 0 && r.Lease == 0
	case plainCas, plainReplace:
		return tuple.MayTemplate(r.P) && tuple.May(r.T) && r.Lease >= 0 && r.Lease <= plainMaxLease
	}
	return len(r.P) == 0 && len(r.T) == 0 && r.Lease == 0
}

// plainPut writes requests whether they may be or not, where their fields may.
func plainPut(r api.Request) []byte {
	b := []byte{byte(r.Client)}
	b = binary.BigEndian.AppendUint32(b, uint32(r.Seq))
	b = append(b, byte(r.Kind))
	b = binary.BigEndian.AppendUint64(b, uint64(r.Lease))
	for _, l := range [][]api.Field{r.P, r.T} {
		var fields []byte
		if len(l) > 0 {
			fields, _ = tuple.Put(l)
		}
		b = binary.BigEndian.AppendUint32(b, uint32(len(fields)))
		b = append(b, fields...)
	}
	return b
}

// plainText cuts a text off, and tells whether there was one.
func plainText(b []byte) ([]byte, []byte, bool) {
	if len(b) < 4 {
		return nil, nil, false
	}
	size := int(binary.BigEndian.Uint32(b))
	b = b[4:]
	if size > len(b) {
		return nil, nil, false
	}
	return b[:size], b[size:], true
}

func plainGet(b []byte) (api.Request, bool) {
	if len(b) < 14 {
		return api.Request{}, false
	}
	r := api.Request{Client: int(b[0]), Seq: int(binary.BigEndian.Uint32(b[1:])), Kind: int(b[5])}
	lease := binary.BigEndian.Uint64(b[6:])
	if lease > plainMaxLease {
		return api.Request{}, false
	}
	r.Lease = int(lease)
	b = b[14:]
	for _, l := range []*[]api.Field{&r.P, &r.T} {
		text, rest, ok := plainText(b)
		if !ok {
			return api.Request{}, false
		}
		if len(text) > 0 {
			fields, e := tuple.Get(text)
			if e != api.OK {
				return api.Request{}, false
			}
			*l = fields
		}
		b = rest
	}
	return r, len(b) == 0 && plainMay(r)
}
