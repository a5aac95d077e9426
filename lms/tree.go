package lms

import (
	"chirograph/api"
	"chirograph/ots"
	"chirograph/pack"
	"chirograph/sha"
)

// lastNode is the number of the last leaf; the root is number 1.
const lastNode = 2*api.Leaves - 1

// What stands behind a node's number, so that no two hashes are of the same text.
const (
	ofLeaf  = 0x8282 // D_LEAF
	ofInner = 0x8383 // D_INTR
)

// stands tells whether New made the tree.
func (t *Tree) stands() bool { return t != nil && t.width != 0 }

// at gives T[r] of a tree that stands; who asks first makes it.
func (t *Tree) at(r int) api.Hash {
	t.once.Do(t.grow)
	return t.nodes[r]
}

// grow makes the nodes from the last one on, so that what a node is made of is there ahead of it; how many are made tells which one is next.
func (t *Tree) grow() {
	for r := lastNode; r >= 1; r = lastNode - int(t.made.Add(1)) {
		t.nodes[r] = t.node(r)
	}
}

func (t *Tree) node(r int) api.Hash {
	if r < api.Leaves {
		return innerNode(t.secret.I, r, t.nodes[2*r], t.nodes[2*r+1])
	}
	key, _ := ots.Public(t.secret, r-api.Leaves, t.width) // of a leaf and a width that are there: no error
	return leafNode(t.secret.I, r, key)
}

func leafNode(i [16]byte, r int, key api.Hash) api.Hash {
	text := nodeText(i, r, ofLeaf)
	text.Raw(key[:])
	return sha.Sum(text.Bytes())
}

func innerNode(i [16]byte, r int, left, right api.Hash) api.Hash {
	text := nodeText(i, r, ofInner)
	text.Raw(left[:])
	text.Raw(right[:])
	return sha.Sum(text.Bytes())
}

// nodeText is what the text of a node's hash begins with.
func nodeText(i [16]byte, r int, mark uint64) *pack.Writer {
	var text pack.Writer
	text.Raw(i[:])
	text.Num(uint64(r), 4)
	text.Num(mark, 2)
	return &text
}
