package genesis

import (
	"chirograph/api"
	"chirograph/pack"
	"chirograph/sha"
)

// written are the bytes of a genesis that may be.
func written(g api.Genesis) []byte {
	var w pack.Writer
	w.Num(uint64(g.F), faultsSize)
	w.Num(uint64(g.Read), accessSize)
	w.Num(uint64(g.Write), accessSize)
	for _, key := range g.Keys {
		w.Raw(key)
	}
	w.Text(g.Start)
	return w.Bytes()
}

// anchor is that of a genesis that may be.
func anchor(g api.Genesis) api.Hash { return marked(anchorMark, written(g)) }

// marked is the digest of the mark and the parts, one behind the other.
func marked(mark string, parts ...[]byte) api.Hash {
	d := sha.New()
	d.Write([]byte(mark))
	for _, part := range parts {
		d.Write(part)
	}
	return d.Sum()
}
