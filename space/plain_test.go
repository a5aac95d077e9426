package space

import (
	"chirograph/api"
	"chirograph/oper"
	"chirograph/tuple"
)

// What follows is chapter 8 once more, as plainly as can be, by its own numbers: what the tests hold the package against.

const (
	plainOut     = 1
	plainRdp     = 2
	plainInp     = 3
	plainRd      = 4
	plainIn      = 5
	plainCas     = 6
	plainReplace = 7
	plainNop     = 8

	plainRDone   = 1
	plainRTuple  = 2
	plainRNone   = 3
	plainRWaits  = 4
	plainRFull   = 5
	plainRDenied = 6
	plainROld    = 7

	plainMaxTime = 1099511627776
	plainMaxSeq  = 1073741824
)

func plainMay(s api.Space) bool {
	if s.Now < 0 || s.Now > plainMaxTime || s.Read < 0 || s.Read > 15 || s.Write < 0 || s.Write > 15 {
		return false
	}
	if len(s.Items) > 64 || len(s.Waiters) > 16 {
		return false
	}
	own := map[int]int{}
	for _, i := range s.Items {
		own[i.Owner]++
		if i.Owner < 0 || i.Owner > 3 || own[i.Owner] > 24 || !tuple.May(i.T) {
			return false
		}
		if i.Until != 0 && (i.Until <= s.Now || i.Until > 2*plainMaxTime) {
			return false
		}
	}
	for _, w := range s.Waiters {
		if w.Client < 0 || w.Client > 3 || w.Seq < 1 || w.Seq > plainMaxSeq || !tuple.MayTemplate(w.P) {
			return false
		}
	}
	for c := 0; c < 4; c++ {
		if !plainMayLast(s.Last[c], c) {
			return false
		}
	}
	return true
}

func plainMayLast(l api.Reply, c int) bool {
	if l.Client != c || l.Seq < 0 || l.Seq > plainMaxSeq {
		return false
	}
	if l.Seq == 0 {
		return l.Kind == 0 && len(l.T) == 0 && !l.Late
	}
	if l.Kind < 1 || l.Kind > 6 {
		return false
	}
	if l.Kind == plainRTuple {
		return tuple.May(l.T)
	}
	return len(l.T) == 0 && !l.Late
}

// plainSpace is a space that is changed as it goes, and what it tells.
type plainSpace struct {
	s     api.Space
	now   int
	r     api.Request
	told  []api.Reply
	first int // the place of the first item that matches P, or -1
}

func plainDo(s api.Space, now int, r api.Request) (api.Space, []api.Reply) {
	w := &plainSpace{s: copySpace(s), now: now, r: r}
	if !plainMay(s) || !oper.May(r) || now < s.Now || now > plainMaxTime {
		return w.s, nil
	}
	w.s.Now = now
	var kept []api.Item
	for _, i := range w.s.Items {
		if i.Until == 0 || i.Until > now {
			kept = append(kept, i)
		}
	}
	w.s.Items = kept
	last := w.s.Last[r.Client]
	if last.Seq > r.Seq {
		return w.s, []api.Reply{{Client: r.Client, Seq: r.Seq, Kind: plainROld}}
	}
	if last.Seq == r.Seq {
		return w.s, []api.Reply{copyReply(last)}
	}
	w.first = -1
	for at := len(w.s.Items) - 1; at >= 0; at-- {
		if tuple.Match(r.P, w.s.Items[at].T) {
			w.first = at
		}
	}
	w.do()
	return w.s, w.told
}

// answer tells r's own reply.
func (w *plainSpace) answer(kind int, t []api.Field) {
	reply := api.Reply{Client: w.r.Client, Seq: w.r.Seq, Kind: kind, T: t}
	w.told = append(w.told, reply)
	w.s.Last[w.r.Client] = copyReply(reply)
}

func (w *plainSpace) do() {
	bit := []int{1, 2, 4, 8}[w.r.Client]
	reads := w.r.Kind == plainRdp || w.r.Kind == plainInp || w.r.Kind == plainRd || w.r.Kind == plainIn || w.r.Kind == plainCas || w.r.Kind == plainReplace
	writes := w.r.Kind == plainOut || w.r.Kind == plainInp || w.r.Kind == plainIn || w.r.Kind == plainCas || w.r.Kind == plainReplace
	if reads && w.s.Read/bit%2 == 0 || writes && w.s.Write/bit%2 == 0 {
		w.answer(plainRDenied, nil)
		return
	}
	switch w.r.Kind {
	case plainOut:
		w.out()
	case plainRdp, plainInp, plainRd, plainIn:
		w.find()
	case plainCas:
		if w.first != -1 {
			w.answer(plainRNone, nil)
		} else {
			w.out()
		}
	case plainReplace:
		w.replace()
	case plainNop:
		w.answer(plainRDone, nil)
	}
}

// own is how many items of the client there are, but for the one at that place.
func (w *plainSpace) own(without int) int {
	n := 0
	for at := range w.s.Items {
		if at != without && w.s.Items[at].Owner == w.r.Client {
			n++
		}
	}
	return n
}

func (w *plainSpace) out() {
	if len(w.s.Items) == 64 || w.own(-1) == 24 {
		w.answer(plainRFull, nil)
		return
	}
	w.answer(plainRDone, nil)
	w.put()
}

func (w *plainSpace) leave(gone int) {
	var kept []api.Item
	for at, i := range w.s.Items {
		if at != gone {
			kept = append(kept, i)
		}
	}
	w.s.Items = kept
}

func (w *plainSpace) find() {
	if w.first != -1 {
		t := copyFields(w.s.Items[w.first].T)
		if w.r.Kind == plainInp || w.r.Kind == plainIn {
			w.leave(w.first)
		}
		w.answer(plainRTuple, t)
		return
	}
	if w.r.Kind == plainRdp || w.r.Kind == plainInp {
		w.answer(plainRNone, nil)
		return
	}
	if len(w.s.Waiters) == 16 {
		w.answer(plainRFull, nil)
		return
	}
	w.s.Waiters = append(w.s.Waiters, api.Waiter{Client: w.r.Client, Seq: w.r.Seq, Take: w.r.Kind == plainIn, P: copyFields(w.r.P)})
	w.answer(plainRWaits, nil)
}

func (w *plainSpace) replace() {
	if w.first == -1 {
		w.answer(plainRNone, nil)
		return
	}
	if w.own(w.first) == 24 {
		w.answer(plainRFull, nil)
		return
	}
	t := copyFields(w.s.Items[w.first].T)
	w.leave(w.first)
	w.answer(plainRTuple, t)
	w.put()
}

func (w *plainSpace) put() {
	for at := 0; at < len(w.s.Waiters); {
		one := w.s.Waiters[at]
		if !tuple.Match(one.P, w.r.T) {
			at++
			continue
		}
		rest := append([]api.Waiter{}, w.s.Waiters[:at]...)
		w.s.Waiters = append(rest, w.s.Waiters[at+1:]...)
		late := api.Reply{Client: one.Client, Seq: one.Seq, Kind: plainRTuple, T: copyFields(w.r.T), Late: true}
		w.told = append(w.told, late)
		if w.s.Last[one.Client].Seq == one.Seq {
			w.s.Last[one.Client] = copyReply(late)
		}
		if one.Take {
			return
		}
	}
	until := 0
	if w.r.Lease > 0 {
		until = w.now + w.r.Lease
	}
	w.s.Items = append(w.s.Items, api.Item{Owner: w.r.Client, Until: until, T: copyFields(w.r.T)})
}

func copyFields(l []api.Field) []api.Field { return append([]api.Field{}, l...) }

func copyReply(l api.Reply) api.Reply {
	l.T = copyFields(l.T)
	return l
}

func copySpace(s api.Space) api.Space {
	var items []api.Item
	for _, i := range s.Items {
		items = append(items, api.Item{Owner: i.Owner, Until: i.Until, T: copyFields(i.T)})
	}
	var waiters []api.Waiter
	for _, w := range s.Waiters {
		waiters = append(waiters, api.Waiter{Client: w.Client, Seq: w.Seq, Take: w.Take, P: copyFields(w.P)})
	}
	s.Items, s.Waiters = items, waiters
	for c := range s.Last {
		s.Last[c] = copyReply(s.Last[c])
	}
	return s
}
