package state

import (
	"crypto/sha256"
	"encoding/binary"

	"chirograph/api"
	"chirograph/space"
	"chirograph/tuple"
)

// What follows is chapter 9 once more, as plainly as can be, by its own numbers and the library's: what the tests hold the package against.

func plainText(b []byte, l []api.Field) []byte {
	var fields []byte
	if len(l) > 0 {
		fields, _ = tuple.Put(l)
	}
	b = binary.BigEndian.AppendUint32(b, uint32(len(fields)))
	return append(b, fields...)
}

func plainFlag(b []byte, flag bool) []byte {
	if flag {
		return append(b, 1)
	}
	return append(b, 0)
}

// plainPut writes spaces whether they may be or not, where their fields may.
func plainPut(s api.Space) []byte {
	b := binary.BigEndian.AppendUint64(nil, uint64(s.Now))
	b = append(b, byte(s.Read), byte(s.Write), byte(len(s.Items)))
	for _, i := range s.Items {
		b = append(b, byte(i.Owner))
		b = binary.BigEndian.AppendUint64(b, uint64(i.Until))
		b = plainText(b, i.T)
	}
	b = append(b, byte(len(s.Waiters)))
	for _, w := range s.Waiters {
		b = append(b, byte(w.Client))
		b = binary.BigEndian.AppendUint32(b, uint32(w.Seq))
		b = plainFlag(b, w.Take)
		b = plainText(b, w.P)
	}
	for c := 0; c < 4; c++ {
		b = binary.BigEndian.AppendUint32(b, uint32(s.Last[c].Seq))
		b = append(b, byte(s.Last[c].Kind))
		b = plainFlag(b, s.Last[c].Late)
		b = plainText(b, s.Last[c].T)
	}
	return b
}

// plainSource cuts parts off its bytes, as long as there are such.
type plainSource struct {
	b      []byte
	cannot bool
}

func (p *plainSource) cut(size int) []byte {
	if p.cannot || size > len(p.b) {
		p.cannot = true
		return make([]byte, 8)
	}
	cut := p.b[:size]
	p.b = p.b[size:]
	return cut
}

func (p *plainSource) one() int  { return int(p.cut(1)[0]) }
func (p *plainSource) four() int { return int(binary.BigEndian.Uint32(p.cut(4))) }

func (p *plainSource) eight() int {
	v := binary.BigEndian.Uint64(p.cut(8))
	if v > 1<<60 {
		p.cannot = true
		return 0
	}
	return int(v)
}

func (p *plainSource) flag() bool {
	v := p.one()
	if v > 1 {
		p.cannot = true
	}
	return v == 1
}

func (p *plainSource) fields() []api.Field {
	size := p.four()
	if p.cannot || size > len(p.b) {
		p.cannot = true
		return nil
	}
	if size == 0 {
		return nil
	}
	l, e := tuple.Get(p.cut(size))
	if e != api.OK {
		p.cannot = true
	}
	return l
}

// plainGet tells, too, whether the bytes are such as are made of a space that may be.
func plainGet(b []byte) (api.Space, bool) {
	p := &plainSource{b: b}
	var s api.Space
	s.Now = p.eight()
	s.Read = p.one()
	s.Write = p.one()
	items := p.one()
	for n := 0; n < items; n++ {
		var i api.Item
		i.Owner = p.one()
		i.Until = p.eight()
		i.T = p.fields()
		s.Items = append(s.Items, i)
	}
	waiters := p.one()
	for n := 0; n < waiters; n++ {
		var w api.Waiter
		w.Client = p.one()
		w.Seq = p.four()
		w.Take = p.flag()
		w.P = p.fields()
		s.Waiters = append(s.Waiters, w)
	}
	for c := 0; c < 4; c++ {
		s.Last[c].Client = c
		s.Last[c].Seq = p.four()
		s.Last[c].Kind = p.one()
		s.Last[c].Late = p.flag()
		s.Last[c].T = p.fields()
	}
	if p.cannot || len(p.b) > 0 || !space.May(s) {
		return api.Space{}, false
	}
	return s, true
}

func plainOfBytes(b []byte) api.Hash {
	return sha256.Sum256([]byte("STAT" + string(b)))
}
