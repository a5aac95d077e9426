package tuple

import (
	"chirograph/api"
	"chirograph/pack"
)

// every asks the closure of each field, with its place, until one does not hold.
func every(l []api.Field, holds func(at int, f api.Field) bool) bool {
	for at, f := range l {
		if !holds(at, f) {
			return false
		}
	}
	return true
}

func may(l []api.Field, one func(f api.Field) bool) bool {
	if len(l) < 1 || len(l) > api.MaxFields {
		return false
	}
	return every(l, func(_ int, f api.Field) bool { return one(f) })
}

// isValue tells whether a tuple may have the field.
func isValue(f api.Field) bool {
	switch f.Kind {
	case api.FInt:
		return f.S == ""
	case api.FText:
		return f.N == 0 && len(f.S) <= api.MaxText
	}
	return false
}

// isPattern tells whether a template may have the field.
func isPattern(f api.Field) bool {
	switch f.Kind {
	case api.AInt, api.AText, api.Any:
		return f.N == 0 && f.S == ""
	}
	return isValue(f)
}

// takes tells whether a template's field matches a tuple's.
func takes(p, t api.Field) bool {
	switch p.Kind {
	case api.AInt:
		return t.Kind == api.FInt
	case api.AText:
		return t.Kind == api.FText
	case api.Any:
		return true
	}
	return p == t
}

// write puts the field's bytes behind those of w.
func write(w *pack.Writer, f api.Field) {
	w.Num(uint64(f.Kind), kindSize)
	switch f.Kind {
	case api.FInt:
		w.Num(uint64(f.N), numberSize)
	case api.FText:
		w.Text([]byte(f.S))
	}
}

// read gives the next field; whether it may be is asked behind it.
func read(r *pack.Reader) api.Field {
	f := api.Field{Kind: int(r.Num(kindSize))}
	switch f.Kind {
	case api.FInt:
		f.N = int64(r.Num(numberSize))
	case api.FText:
		f.S = string(r.Text(api.MaxText))
	}
	return f
}
