package space

import (
	"slices"

	"chirograph/api"
	"chirograph/tuple"
)

// clone gives a space that shares nothing with s.
func clone(s api.Space) api.Space {
	s.Items = slices.Clone(s.Items)
	for at := range s.Items {
		s.Items[at].T = slices.Clone(s.Items[at].T)
	}
	s.Waiters = slices.Clone(s.Waiters)
	for at := range s.Waiters {
		s.Waiters[at].P = slices.Clone(s.Waiters[at].P)
	}
	for c := range s.Last {
		s.Last[c] = cloneReply(s.Last[c])
	}
	return s
}

func cloneReply(reply api.Reply) api.Reply {
	reply.T = slices.Clone(reply.T)
	return reply
}

func sameItem(a, b api.Item) bool {
	return a.Owner == b.Owner && a.Until == b.Until && tuple.Same(a.T, b.T)
}

func sameWaiter(a, b api.Waiter) bool {
	return a.Client == b.Client && a.Seq == b.Seq && a.Take == b.Take && tuple.Same(a.P, b.P)
}

func sameReply(a, b api.Reply) bool {
	return a.Client == b.Client && a.Seq == b.Seq && a.Kind == b.Kind && a.Late == b.Late && tuple.Same(a.T, b.T)
}
