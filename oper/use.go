package oper

import (
	"chirograph/api"
	"chirograph/pack"
	"chirograph/tuple"
)

// use is what a kind of request does with a space: those that read have a P, those that bring have a T.
type use struct{ reads, writes, brings bool }

var uses = [...]use{
	api.Out:     {writes: true, brings: true},
	api.Rdp:     {reads: true},
	api.Inp:     {reads: true, writes: true},
	api.Rd:      {reads: true},
	api.In:      {reads: true, writes: true},
	api.Cas:     {reads: true, writes: true, brings: true},
	api.Replace: {reads: true, writes: true, brings: true},
	api.Nop:     {},
}

func isKind(kind int) bool { return kind >= api.Out && kind <= api.Nop }

// mayFind tells whether P is as the request's kind asks.
func mayFind(r api.Request) bool {
	if Reads(r.Kind) {
		return tuple.MayTemplate(r.P)
	}
	return len(r.P) == 0
}

// mayBring tells whether T and Lease are as the request's kind asks.
func mayBring(r api.Request) bool {
	if uses[r.Kind].brings {
		return tuple.May(r.T) && r.Lease >= 0 && r.Lease <= api.MaxTime
	}
	return len(r.T) == 0 && r.Lease == 0
}

// writeFields puts a Text of the fields' bytes, an empty one where there are none.
func writeFields(w *pack.Writer, l []api.Field) {
	if len(l) == 0 {
		w.Text(nil)
		return
	}
	b, _ := tuple.Put(l) // they may be: it was asked
	w.Text(b)
}

// readFields gives the fields of the next Text, and whether it is one that is written of fields.
func readFields(r *pack.Reader) ([]api.Field, bool) {
	b := r.Text(r.Left())
	if len(b) == 0 {
		return nil, true
	}
	l, e := tuple.Get(b)
	return l, e == api.OK
}
