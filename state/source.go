package state

import (
	"chirograph/api"
	"chirograph/pack"
	"chirograph/tuple"
)

// source gives a space's parts, one behind the other, and keeps whether one was not as it is written.
type source struct {
	bytes *pack.Reader
	wrong bool
}

// num gives the next number; one that is too great for an int comes out below 0, which may not be either.
func (from *source) num(size int) int { return int(from.bytes.Num(size)) }

func (from *source) flag() bool {
	v := from.bytes.Num(flagSize)
	from.wrong = from.wrong || v > 1
	return v == 1
}

// fields gives those of the next Text: of an empty one none.
func (from *source) fields() []api.Field {
	b := from.bytes.Text(from.bytes.Left())
	if len(b) == 0 {
		return nil
	}
	l, e := tuple.Get(b)
	from.wrong = from.wrong || e != api.OK
	return l
}

// end tells whether all was read, and as it is written.
func (from *source) end() int {
	if from.wrong {
		return api.ErrBad
	}
	return from.bytes.End()
}

// rows reads as many rows as the number ahead of them says, each by the closure.
func rows[Row any](from *source, read func() Row) []Row {
	var l []Row
	for range from.num(countSize) {
		l = append(l, read())
	}
	return l
}
