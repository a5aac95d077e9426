package state

import (
	"chirograph/api"
	"chirograph/pack"
	"chirograph/tuple"
)

func writeItem(w *pack.Writer, i api.Item) {
	w.Num(uint64(i.Owner), clientSize)
	w.Num(uint64(i.Until), timeSize)
	writeFields(w, i.T)
}

func writeWaiter(w *pack.Writer, waiter api.Waiter) {
	w.Num(uint64(waiter.Client), clientSize)
	w.Num(uint64(waiter.Seq), seqSize)
	writeFlag(w, waiter.Take)
	writeFields(w, waiter.P)
}

// writeReply leaves out whose reply it is: where it stands tells.
func writeReply(w *pack.Writer, last api.Reply) {
	w.Num(uint64(last.Seq), seqSize)
	w.Num(uint64(last.Kind), kindSize)
	writeFlag(w, last.Late)
	writeFields(w, last.T)
}

func writeFlag(w *pack.Writer, flag bool) {
	var v uint64
	if flag {
		v = 1
	}
	w.Num(v, flagSize)
}

// writeFields puts a Text of the fields' bytes, an empty one where there are none.
func writeFields(w *pack.Writer, l []api.Field) {
	if len(l) == 0 {
		w.Text(nil)
		return
	}
	b, _ := tuple.Put(l) // they may be: it was asked
	w.Text(b)
}
