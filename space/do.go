package space

import (
	"slices"

	"chirograph/api"
	"chirograph/oper"
	"chirograph/tuple"
)

// The functions of this file change the space that they are given: it is Do's own.

// goOn sets the time, and lets go what lasted up to then.
func goOn(s *api.Space, now int) {
	s.Now = now
	s.Items = slices.DeleteFunc(s.Items, func(i api.Item) bool { return i.Until != 0 && i.Until <= now })
}

// tell is a reply to r without a tuple.
func tell(r api.Request, kind int) api.Reply {
	return api.Reply{Client: r.Client, Seq: r.Seq, Kind: kind}
}

// answer does a new request, and gives r's own reply and those that are late.
func answer(s *api.Space, r api.Request) []api.Reply {
	own, puts := act(s, r)
	// Ahead of the late ones: one of them may be a waiter's of r's own number, and is Last then.
	note(s, own)
	replies := []api.Reply{own}
	if puts {
		replies = append(replies, put(s, r)...)
	}
	return replies
}

// note makes the reply its client's last one.
func note(s *api.Space, reply api.Reply) { s.Last[reply.Client] = cloneReply(reply) }

// act gives r's own reply, and tells whether r's tuple is to be put behind it.
func act(s *api.Space, r api.Request) (api.Reply, bool) {
	if !allowed(*s, r) {
		return tell(r, api.RDenied), false
	}
	at := Find(*s, r.P)
	switch r.Kind {
	case api.Out:
		return bring(*s, r)
	case api.Cas:
		if at >= 0 {
			return tell(r, api.RNone), false
		}
		return bring(*s, r)
	case api.Replace:
		return replace(s, r, at)
	case api.Nop:
		return tell(r, api.RDone), false
	}
	return look(s, r, at), false
}

func allowed(s api.Space, r api.Request) bool {
	bit := 1 << r.Client
	return (s.Read&bit != 0 || !oper.Reads(r.Kind)) && (s.Write&bit != 0 || !oper.Writes(r.Kind))
}

// count tells of how many items the closure holds.
func count(l []api.Item, holds func(i api.Item) bool) int {
	n := 0
	for _, i := range l {
		if holds(i) {
			n++
		}
	}
	return n
}

// owned counts the items of c.
func owned(s api.Space, c int) int {
	return count(s.Items, func(i api.Item) bool { return i.Owner == c })
}

// bring answers what puts its tuple if there is room.
func bring(s api.Space, r api.Request) (api.Reply, bool) {
	if len(s.Items) >= api.MaxTuples || owned(s, r.Client) >= api.MaxOwn {
		return tell(r, api.RFull), false
	}
	return tell(r, api.RDone), true
}

// replace answers what puts its tuple instead of the one at that place.
func replace(s *api.Space, r api.Request, at int) (api.Reply, bool) {
	if at < 0 {
		return tell(r, api.RNone), false
	}
	n := owned(*s, r.Client)
	if s.Items[at].Owner == r.Client {
		n--
	}
	if n >= api.MaxOwn {
		return tell(r, api.RFull), false
	}
	return give(r, take(s, at)), true
}

// look answers what asks for a tuple: the one at that place, if there is one.
func look(s *api.Space, r api.Request, at int) api.Reply {
	takes := r.Kind == api.Inp || r.Kind == api.In
	switch {
	case at >= 0 && takes:
		return give(r, take(s, at))
	case at >= 0:
		return give(r, slices.Clone(s.Items[at].T))
	case r.Kind == api.Rdp || r.Kind == api.Inp:
		return tell(r, api.RNone)
	case len(s.Waiters) >= api.MaxWaiters:
		return tell(r, api.RFull)
	}
	s.Waiters = append(s.Waiters, api.Waiter{Client: r.Client, Seq: r.Seq, Take: takes, P: slices.Clone(r.P)})
	return tell(r, api.RWaits)
}

// give is a reply to r with a tuple.
func give(r api.Request, t []api.Field) api.Reply {
	reply := tell(r, api.RTuple)
	reply.T = t
	return reply
}

// take lets the item at that place go, and gives its tuple.
func take(s *api.Space, at int) []api.Field {
	t := s.Items[at].T
	s.Items = slices.Delete(s.Items, at, at+1)
	return t
}

// put shows r's tuple to those who wait, and lays it behind the items if none took it; it gives what they are told.
func put(s *api.Space, r api.Request) []api.Reply {
	late, taken := wake(s, r.T)
	for _, reply := range late {
		if s.Last[reply.Client].Seq == reply.Seq {
			note(s, reply)
		}
	}
	if taken {
		return late
	}
	i := api.Item{Owner: r.Client, T: slices.Clone(r.T)}
	if r.Lease != 0 {
		i.Until = s.Now + r.Lease
	}
	s.Items = append(s.Items, i)
	return late
}

// wake lets those go who waited for the tuple, up to the first one that takes it; it gives what they are told, and whether it was taken.
func wake(s *api.Space, t []api.Field) ([]api.Reply, bool) {
	var left []api.Waiter
	var late []api.Reply
	taken := false
	for _, w := range s.Waiters {
		if taken || !tuple.Match(w.P, t) {
			left = append(left, w)
			continue
		}
		late = append(late, api.Reply{Client: w.Client, Seq: w.Seq, Kind: api.RTuple, T: slices.Clone(t), Late: true})
		taken = w.Take
	}
	s.Waiters = left
	return late, taken
}
