package sha

// rounds is K of FIPS 180-4, section 4.2.2.
var rounds = [64]uint32{
	0x428a2f98, 0x71374491, 0xb5c0fbcf, 0xe9b5dba5, 0x3956c25b, 0x59f111f1, 0x923f82a4, 0xab1c5ed5,
	0xd807aa98, 0x12835b01, 0x243185be, 0x550c7dc3, 0x72be5d74, 0x80deb1fe, 0x9bdc06a7, 0xc19bf174,
	0xe49b69c1, 0xefbe4786, 0x0fc19dc6, 0x240ca1cc, 0x2de92c6f, 0x4a7484aa, 0x5cb0a9dc, 0x76f988da,
	0x983e5152, 0xa831c66d, 0xb00327c8, 0xbf597fc7, 0xc6e00bf3, 0xd5a79147, 0x06ca6351, 0x14292967,
	0x27b70a85, 0x2e1b2138, 0x4d2c6dfc, 0x53380d13, 0x650a7354, 0x766a0abb, 0x81c2c92e, 0x92722c85,
	0xa2bfe8a1, 0xa81a664b, 0xc24b8b70, 0xc76c51a3, 0xd192e819, 0xd6990624, 0xf40e3585, 0x106aa070,
	0x19a4c116, 0x1e376c08, 0x2748774c, 0x34b0bcb5, 0x391c0cb3, 0x4ed8aa4a, 0x5b9cca4f, 0x682e6ff3,
	0x748f82ee, 0x78a5636f, 0x84c87814, 0x8cc70208, 0x90befffa, 0xa4506ceb, 0xbef9a3f7, 0xc67178f2,
}

// initial is H(0) of FIPS 180-4, section 5.3.3.
func initial() [8]uint32 {
	return [8]uint32{
		0x6a09e667, 0xbb67ae85, 0x3c6ef372, 0xa54ff53a, 0x510e527f, 0x9b05688c, 0x1f83d9ab, 0x5be0cd19,
	}
}

// mixed is the state behind a block: FIPS 180-4, section 6.2.2, with its names.
func mixed(s [8]uint32, block *[blockSize]byte) [8]uint32 {
	a, b, c, d, e, f, g, h := s[0], s[1], s[2], s[3], s[4], s[5], s[6], s[7]
	w := schedule(block)
	for t := range w {
		t1 := h + bigSigma1(e) + (e&f ^ ^e&g) + rounds[t] + w[t]
		t2 := bigSigma0(a) + (a&b ^ a&c ^ b&c)
		h, g, f, e = g, f, e, d+t1
		d, c, b, a = c, b, a, t1+t2
	}
	return [8]uint32{s[0] + a, s[1] + b, s[2] + c, s[3] + d, s[4] + e, s[5] + f, s[6] + g, s[7] + h}
}

func schedule(block *[blockSize]byte) [64]uint32 {
	var w [64]uint32
	for i := range 16 {
		at := 4 * i
		w[i] = uint32(block[at])<<24 | uint32(block[at+1])<<16 | uint32(block[at+2])<<8 | uint32(block[at+3])
	}
	for i := 16; i < len(w); i++ {
		w[i] = smallSigma1(w[i-2]) + w[i-7] + smallSigma0(w[i-15]) + w[i-16]
	}
	return w
}

func turn(w uint32, by uint) uint32 { return w>>by | w<<(32-by) }

func bigSigma0(w uint32) uint32 { return turn(w, 2) ^ turn(w, 13) ^ turn(w, 22) }

func bigSigma1(w uint32) uint32 { return turn(w, 6) ^ turn(w, 11) ^ turn(w, 25) }

func smallSigma0(w uint32) uint32 { return turn(w, 7) ^ turn(w, 18) ^ w>>3 }

func smallSigma1(w uint32) uint32 { return turn(w, 17) ^ turn(w, 19) ^ w>>10 }
