package sha

import "math/bits"

// state256 is a to h of SHA-256, between two blocks.
type state256 [8]uint32

// constants256 are the cube roots of the first 64 primes, behind the point: the tests work them out anew.
var constants256 = [64]uint32{
	0x428a2f98, 0x71374491, 0xb5c0fbcf, 0xe9b5dba5, 0x3956c25b, 0x59f111f1, 0x923f82a4, 0xab1c5ed5,
	0xd807aa98, 0x12835b01, 0x243185be, 0x550c7dc3, 0x72be5d74, 0x80deb1fe, 0x9bdc06a7, 0xc19bf174,
	0xe49b69c1, 0xefbe4786, 0x0fc19dc6, 0x240ca1cc, 0x2de92c6f, 0x4a7484aa, 0x5cb0a9dc, 0x76f988da,
	0x983e5152, 0xa831c66d, 0xb00327c8, 0xbf597fc7, 0xc6e00bf3, 0xd5a79147, 0x06ca6351, 0x14292967,
	0x27b70a85, 0x2e1b2138, 0x4d2c6dfc, 0x53380d13, 0x650a7354, 0x766a0abb, 0x81c2c92e, 0x92722c85,
	0xa2bfe8a1, 0xa81a664b, 0xc24b8b70, 0xc76c51a3, 0xd192e819, 0xd6990624, 0xf40e3585, 0x106aa070,
	0x19a4c116, 0x1e376c08, 0x2748774c, 0x34b0bcb5, 0x391c0cb3, 0x4ed8aa4a, 0x5b9cca4f, 0x682e6ff3,
	0x748f82ee, 0x78a5636f, 0x84c87814, 0x8cc70208, 0x90befffa, 0xa4506ceb, 0xbef9a3f7, 0xc67178f2,
}

// beginning256 holds the square roots of the first eight primes, behind the point.
func beginning256() state256 {
	return state256{
		0x6a09e667, 0xbb67ae85, 0x3c6ef372, 0xa54ff53a, 0x510e527f, 0x9b05688c, 0x1f83d9ab, 0x5be0cd19,
	}
}

func Sum256(b []byte) [32]byte {
	s := beginning256()
	for rest := b; len(rest) >= block256; rest = rest[block256:] {
		s = s.behind(rest[:block256])
	}
	for rest := ending(b, block256, length256); len(rest) > 0; rest = rest[block256:] {
		s = s.behind(rest[:block256])
	}
	return s.bytes()
}

// behind is the state behind one more block.
func (s state256) behind(block []byte) state256 {
	words := spread256(block)
	a, b, c, d, e, f, g, h := s[0], s[1], s[2], s[3], s[4], s[5], s[6], s[7]
	for t := range 64 {
		t1 := h + greatOne256(e) + (e&f ^ ^e&g) + constants256[t] + words[t]
		t2 := greatZero256(a) + (a&b ^ a&c ^ b&c)
		h, g, f, e, d, c, b, a = g, f, e, d+t1, c, b, a, t1+t2
	}
	return state256{s[0] + a, s[1] + b, s[2] + c, s[3] + d, s[4] + e, s[5] + f, s[6] + g, s[7] + h}
}

// spread256 is the block's words, and the later ones that follow out of them.
func spread256(block []byte) [64]uint32 {
	var w [64]uint32
	for i := range 16 {
		w[i] = word32(block[4*i:])
	}
	for t := 16; t < 64; t++ {
		w[t] = smallOne256(w[t-2]) + w[t-7] + smallZero256(w[t-15]) + w[t-16]
	}
	return w
}

// The table's S0 and S1 are great, its s0 and s1 small.

func greatZero256(x uint32) uint32 {
	return bits.RotateLeft32(x, -2) ^ bits.RotateLeft32(x, -13) ^ bits.RotateLeft32(x, -22)
}

func greatOne256(x uint32) uint32 {
	return bits.RotateLeft32(x, -6) ^ bits.RotateLeft32(x, -11) ^ bits.RotateLeft32(x, -25)
}

func smallZero256(x uint32) uint32 {
	return bits.RotateLeft32(x, -7) ^ bits.RotateLeft32(x, -18) ^ x>>3
}

func smallOne256(x uint32) uint32 {
	return bits.RotateLeft32(x, -17) ^ bits.RotateLeft32(x, -19) ^ x>>10
}

func (s state256) bytes() [32]byte {
	var out [32]byte
	for i := range out {
		out[i] = byte(s[i/4] >> (24 - i%4*8))
	}
	return out
}
