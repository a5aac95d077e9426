package space

import (
	"chirograph/api"
	"chirograph/tuple"
)

const (
	allClients = 1<<api.Clients - 1 // a bit for each client
	maxSeq     = 1 << 30
	maxUntil   = 2 * api.MaxTime // a lease of MaxTime may begin at MaxTime
)

// every tells whether the closure holds of all that the list has.
func every[E any](l []E, holds func(e E) bool) bool {
	for _, e := range l {
		if !holds(e) {
			return false
		}
	}
	return true
}

func isClient(c int) bool { return c >= 0 && c < api.Clients }

func mayAllow(clients int) bool { return clients >= 0 && clients <= allClients }

func mayItems(l []api.Item, now int) bool {
	if len(l) > api.MaxTuples {
		return false
	}
	var own [api.Clients]int
	return every(l, func(i api.Item) bool {
		if !isClient(i.Owner) || !mayLast(i.Until, now) || !tuple.May(i.T) {
			return false
		}
		own[i.Owner]++
		return own[i.Owner] <= api.MaxOwn
	})
}

// mayLast tells whether an item may last until then.
func mayLast(until, now int) bool { return until == 0 || until > now && until <= maxUntil }

func mayWaiters(l []api.Waiter) bool {
	return len(l) <= api.MaxWaiters && every(l, func(w api.Waiter) bool {
		return isClient(w.Client) && w.Seq >= 1 && w.Seq <= maxSeq && tuple.MayTemplate(w.P)
	})
}

func mayReplies(last [api.Clients]api.Reply) bool {
	for c, reply := range last {
		if reply.Client != c || !mayReply(reply) {
			return false
		}
	}
	return true
}

// mayReply tells whether a client's last reply may be, whoever the client is.
func mayReply(reply api.Reply) bool {
	switch {
	case reply.Seq == 0:
		return reply.Kind == 0 && len(reply.T) == 0 && !reply.Late
	case reply.Seq < 0 || reply.Seq > maxSeq:
		return false
	case reply.Kind == api.RTuple:
		return tuple.May(reply.T)
	}
	return reply.Kind >= api.RDone && reply.Kind <= api.RDenied && len(reply.T) == 0 && !reply.Late
}
