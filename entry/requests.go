package entry

import (
	"iter"

	"chirograph/api"
	"chirograph/oper"
	"chirograph/pack"
)

// requests goes over those of an entry, the first one first.
func requests(e api.Entry) iter.Seq[api.Request] {
	return func(yield func(api.Request) bool) {
		for _, r := range e.List {
			if !yield(r) {
				return
			}
		}
	}
}

// read goes over those that are written, as many as the number ahead of them says; bytes that are none come out as a zero request, which may not be.
func read(from *pack.Reader) iter.Seq[api.Request] {
	return func(yield func(api.Request) bool) {
		for range from.Num(countSize) {
			r, _ := oper.Get(from.Text(from.Left()))
			if !yield(r) {
				return
			}
		}
	}
}
