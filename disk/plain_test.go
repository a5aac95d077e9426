package disk

// What follows is chapter 16 once more, as plainly as can be, with its own numbers: what the tests hold the package against.

const (
	plainOK   = 0
	plainArg  = 1
	plainNone = 6
)

// plainDisk has all bytes, sector behind sector, twice: as they are now, and as they were when all was synced last.
type plainDisk struct {
	now, synced []byte
	since       []bool // by sector: whether it was written since then
}

func plainNew(sectors int) *plainDisk {
	return &plainDisk{now: make([]byte, 64*sectors), synced: make([]byte, 64*sectors), since: make([]bool, sectors)}
}

func (p *plainDisk) write(at int, b []byte) int {
	if at < 0 || at >= len(p.since) {
		return plainNone
	}
	if len(b) > 64 {
		return plainArg
	}
	for n := 0; n < 64; n++ {
		p.now[64*at+n] = 0
		if n < len(b) {
			p.now[64*at+n] = b[n]
		}
	}
	p.since[at] = true
	return plainOK
}

func (p *plainDisk) read(at int) ([]byte, int) {
	if at < 0 || at >= len(p.since) {
		return nil, plainNone
	}
	return p.now[64*at : 64*at+64], plainOK
}

func (p *plainDisk) sync() {
	copy(p.synced, p.now)
	for at := range p.since {
		p.since[at] = false
	}
}

func (p *plainDisk) dirty() []int {
	var l []int
	for at, yes := range p.since {
		if yes {
			l = append(l, at)
		}
	}
	return l
}

// crash asks of each byte whether it stays.
func (p *plainDisk) crash(keep []int, torn, n int) {
	for m := range p.now {
		at, stays := m/64, false
		for _, k := range keep {
			if k == at {
				stays = true
			}
		}
		if at == torn && m%64 < n {
			stays = true
		}
		if p.since[at] && !stays {
			p.now[m] = p.synced[m]
		}
	}
	p.sync()
}
