package genesis

import (
	"chirograph/api"
	"chirograph/lms"
	"chirograph/pack"
)

const (
	keySize  = 56 // bytes of a public key
	mostKeys = 3*api.MaxFaults + 1
)

// keysFor is how many replicas there are, if f of them may lie.
func keysFor(f int) int { return 3*f + 1 }

// mayKeys tells whether the keys are as many as F, which may be, asks for, and each of the form.
func mayKeys(g api.Genesis) bool {
	if len(g.Keys) != keysFor(g.F) {
		return false
	}
	for _, key := range g.Keys {
		if !lms.Form(key) {
			return false
		}
	}
	return true
}

// keyRoom is room for as many keys as there may be, one behind the other.
type keyRoom [mostKeys * keySize]byte

// key is the nth one's place, cut off at its end: who adds to what is handed out writes over none behind it.
func (r *keyRoom) key(n int) []byte {
	at, end := n*keySize, (n+1)*keySize
	return r[at:end:end]
}

// readKeys gives the next keys; of such as are not there, noughts, and from is wrong.
func readKeys(from *pack.Reader, many int) [][]byte {
	var room keyRoom
	keys := make([][]byte, many)
	for n := range keys {
		keys[n] = room.key(n)
		copy(keys[n], from.Raw(keySize))
	}
	return keys
}
