package key

// What follows is chapter 15 once more, as plainly as can be, with its own numbers: what the tests hold the package against.

const (
	plainOK    = 0
	plainArg   = 1
	plainEmpty = 4
	plainNone  = 6
)

// plainSigner says of each of the 32 indices what it is.
type plainSigner struct{ reserved, used [32]bool }

func plainNew(used int) *plainSigner {
	p := &plainSigner{}
	for n := 0; n < used; n++ {
		p.reserved[n], p.used[n] = true, true
	}
	return p
}

// first is the number of the first index that is not so; 32, if all are.
func first(so [32]bool) int {
	for n, yes := range so {
		if !yes {
			return n
		}
	}
	return 32
}

func (p *plainSigner) reserve(n int) int {
	if n < first(p.reserved) || n > 32 {
		return plainArg
	}
	for m := 0; m < n; m++ {
		p.reserved[m] = true
	}
	return plainOK
}

// sign tells the index, if there is one.
func (p *plainSigner) sign() (int, int) {
	n := first(p.used)
	if n == 32 {
		return 0, plainEmpty
	}
	if !p.reserved[n] {
		return 0, plainNone
	}
	p.used[n] = true
	return n, plainOK
}
