package hss

import (
	"sync"

	"chirograph/api"
	"chirograph/lms"
	"chirograph/pack"
	"chirograph/sha"
)

// What stands where a chain's number stands in an OTS's secrets, so that no child's secret is one of those.
const (
	ofName = 0xffff
	ofSeed = 0xfffe
)

// lowerTree is made when it is first asked.
type lowerTree struct {
	once sync.Once
	tree *lms.Tree
}

// stands tells whether New made the key.
func (k *Key) stands() bool { return k != nil && k.upper != nil }

// below gives the tree below leaf q of a key of two levels.
func (k *Key) below(q int) *lms.Tree {
	l := &k.lower[q]
	l.once.Do(func() {
		l.tree, _ = lms.New(Child(k.secret, q), k.width) // of the upper tree's width: no error
	})
	return l.tree
}

// derived is RFC 8554's appendix A, of a number that is no chain's.
func derived(s api.Secret, q int, mark uint64) api.Hash {
	var text pack.Writer
	text.Raw(s.I[:])
	text.Num(uint64(q), 4)
	text.Num(mark, 2)
	text.Num(0xff, 1)
	text.Raw(s.Seed[:])
	return sha.Sum(text.Bytes())
}
