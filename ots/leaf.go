package ots

import (
	"chirograph/api"
	"chirograph/pack"
	"chirograph/sha"
)

// What stands in the place of a chain's number, so that no two hashes are of the same text.
const (
	ofPublic   = 0x8080 // D_PBLC
	ofMessage  = 0x8181 // D_MESG
	randomizer = 0xfffd // of C
)

// secretStep stands in the place of a step's number, which never reaches it: 255 steps are counted from 0.
const secretStep = 0xff

const (
	headSize = 16 + 4 + 2 // I || u32(q) || u16
	linkSize = headSize + 1 + hashSize
)

// leaf is what all hashes of one key pair begin with.
type leaf struct {
	i [16]byte
	q int
}

func isLeaf(q int) bool { return q >= 0 && q < api.Leaves }

func (l leaf) head(mark int) []byte {
	var w pack.Writer
	w.Raw(l.i[:])
	w.Num(uint64(l.q), 4)
	w.Num(uint64(mark), 2)
	return w.Bytes()
}

// walker gives a closure that goes along a chain, from a step up to another; it keeps what all steps of the leaf begin with.
func (l leaf) walker() func(chain, from, to int, x api.Hash) api.Hash {
	var begin [linkSize]byte
	copy(begin[:], l.head(0))
	return func(chain, from, to int, x api.Hash) api.Hash {
		link := begin
		link[headSize-2], link[headSize-1] = byte(chain>>8), byte(chain)
		for step := from; step < to; step++ {
			link[headSize] = byte(step)
			copy(link[headSize+1:], x[:])
			x = sha.Sum(link[:])
		}
		return x
	}
}

// secret is appendix A's: where a chain begins.
func (l leaf) secret(chain int, seed api.Hash) api.Hash {
	d := sha.New()
	d.Write(l.head(chain))
	d.Write([]byte{secretStep})
	d.Write(seed[:])
	return d.Sum()
}

// message is Q: what the digits are made of.
func (l leaf) message(c api.Hash, msg []byte) api.Hash {
	d := sha.New()
	d.Write(l.head(ofMessage))
	d.Write(c[:])
	d.Write(msg)
	return d.Sum()
}

// public is K of section 4.3, and Kc of algorithm 4b: what the ends of all chains make.
func (l leaf) public(k kind, end func(chain int) api.Hash) api.Hash {
	d := sha.New()
	d.Write(l.head(ofPublic))
	for chain := range k.chains {
		x := end(chain)
		d.Write(x[:])
	}
	return d.Sum()
}
