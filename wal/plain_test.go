package wal

import (
	"crypto/sha256"
	"encoding/binary"
)

// What follows is chapter 17 once more (with what it needs of chapter 16), as plainly as can be, with its own numbers and the library's SHA-256: what the tests hold the package against.

const (
	plainOK   = 0
	plainArg  = 1
	plainFull = 5
)

// plainText is a record's bytes: the length, eight bytes of the digest, the record.
func plainText(number int, b []byte) []byte {
	text := append([]byte("RECO"), byte(number>>24), byte(number>>16), byte(number>>8), byte(number))
	sum := sha256.Sum256(append(text, b...))
	size := len(b)
	out := []byte{byte(size >> 24), byte(size >> 16), byte(size >> 8), byte(size)}
	for n := 0; n < 8; n++ {
		out = append(out, sum[n])
	}
	return append(out, b...)
}

// plainSectors is plainText with noughts behind, to the sector's end.
func plainSectors(number int, b []byte) []byte {
	out := plainText(number, b)
	for len(out)%64 != 0 {
		out = append(out, 0)
	}
	return out
}

// plainLog has all bytes of a disk, sector behind sector, twice: as they are now, and as they were when all was synced last.
type plainLog struct {
	now, synced []byte
	since       []bool // by sector: whether it was written since then
	records     [][]byte
	used        int
}

// plainOpen opens what stands on a disk.
func plainOpen(image []byte) *plainLog {
	p := &plainLog{now: append([]byte{}, image...), since: make([]bool, len(image)/64)}
	for {
		b, sectors := plainRecord(p.now[64*p.used:], len(p.records))
		if sectors == 0 {
			break
		}
		p.records = append(p.records, b)
		p.used += sectors
	}
	for m := 64 * p.used; m < len(p.now); m++ {
		p.now[m] = 0
	}
	p.sync()
	return p
}

// plainRecord tells the record that stands at the beginning of the bytes, and its sectors: none, if it does not.
func plainRecord(b []byte, number int) ([]byte, int) {
	if len(b) < 12 {
		return nil, 0
	}
	size := int64(binary.BigEndian.Uint32(b))
	if size < 1 || size > 20000 || 12+size > int64(len(b)) {
		return nil, 0
	}
	record := append([]byte{}, b[12:12+size]...)
	if string(plainText(number, record)) != string(b[:12+size]) {
		return nil, 0
	}
	return record, len(plainSectors(number, record)) / 64
}

func (p *plainLog) put(b []byte) int {
	if len(b) < 1 || len(b) > 20000 {
		return plainArg
	}
	text := plainSectors(len(p.records), b)
	if 64*p.used+len(text) > len(p.now) {
		return plainFull
	}
	copy(p.now[64*p.used:], text)
	p.records = append(p.records, append([]byte{}, b...))
	for n := 0; n < len(text)/64; n++ {
		p.since[p.used] = true
		p.used++
	}
	return plainOK
}

func (p *plainLog) sync() {
	p.synced = append([]byte{}, p.now...)
	for at := range p.since {
		p.since[at] = false
	}
}

func (p *plainLog) dirty() []int {
	var l []int
	for at, yes := range p.since {
		if yes {
			l = append(l, at)
		}
	}
	return l
}

// crash asks of each byte whether it stays.
func (p *plainLog) crash(keep []int, torn, n int) {
	kept := map[int]bool{}
	for _, at := range keep {
		kept[at] = true
	}
	for m := range p.now {
		at := m / 64
		stays := kept[at] || at == torn && m%64 < n
		if p.since[at] && !stays {
			p.now[m] = p.synced[m]
		}
	}
	p.sync()
}
