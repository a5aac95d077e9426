package ots

import (
	"chirograph/api"
	"chirograph/pack"
)

const (
	hashSize   = len(api.Hash{})
	sumSize    = 2 // bytes of the checksum
	codeSize   = 4 // bytes of the typecode
	mostChains = 265
)

// kind is a row of RFC 8554's table 1.
type kind struct {
	code   uint64
	width  int // w
	chains int // p
	shift  int // ls
}

var kinds = [4]kind{
	{code: 1, width: 1, chains: 265, shift: 7},
	{code: 2, width: 2, chains: 133, shift: 6},
	{code: 3, width: 4, chains: 67, shift: 4},
	{code: 4, width: 8, chains: 34, shift: 0},
}

// find gives the kind of that width, if there is one.
func find(width int) (kind, bool) {
	for _, k := range kinds {
		if k.width == width {
			return k, true
		}
	}
	return kind{}, false
}

// top is the greatest digit, and so the number of steps in a chain.
func (k kind) top() int { return 1<<k.width - 1 }

// digits gives those of h and of its checksum; behind the kind's chains the array says nothing.
func (k kind) digits(h api.Hash) [mostChains]int {
	var digits [mostChains]int
	var text [hashSize + sumSize]byte
	copy(text[:], h[:])
	sum := 0
	own := 8 * hashSize / k.width
	for n := range own {
		digits[n] = k.coef(text, n)
		sum += k.top() - digits[n]
	}
	sum <<= k.shift
	text[hashSize], text[hashSize+1] = byte(sum>>8), byte(sum)
	for n := own; n < k.chains; n++ {
		digits[n] = k.coef(text, n)
	}
	return digits
}

// coef is RFC 8554's, section 3.1.3.
func (k kind) coef(text [hashSize + sumSize]byte, n int) int {
	perByte := 8 / k.width
	shift := 8 - k.width*(n%perByte+1)
	return int(text[n/perByte]>>shift) & k.top()
}

// fits tells whether sig has just the bytes of a signature of this kind. The length comes first, so that what is cut isn't read.
func (k kind) fits(sig []byte) bool {
	return len(sig) == codeSize+hashSize*(1+k.chains) && pack.New(sig[:codeSize]).Num(codeSize) == k.code
}

// hashAt gives a fitting signature's C (n is 0), or the value of chain n - 1.
func hashAt(sig []byte, n int) api.Hash {
	at := codeSize + n*hashSize
	return api.Hash(sig[at : at+hashSize])
}
