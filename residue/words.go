package residue

import (
	"math/bits"

	"vestry/api"
)

// l's words.
const (
	l0 = 0x5812631a5cf5d3ed
	l1 = 0x14def9dea2f79cd6
	l2 = 0
	l3 = 1 << 60
)

// words are a number below 2^256, the lowest word first; wide is one below 2^512.
type (
	words [4]uint64
	wide  [8]uint64
)

func read(a api.Scalar) words {
	var n words
	for i := range 32 {
		n[i/8] |= uint64(a[i]) << (i % 8 * 8)
	}
	return n
}

func write(n words) api.Scalar {
	var a api.Scalar
	for i := range 32 {
		a[i] = byte(n[i/8] >> (i % 8 * 8))
	}
	return a
}

func sum(a, b words) wide {
	var n wide
	for i := range 4 {
		n[i], n[4] = bits.Add64(a[i], b[i], n[4])
	}
	return n
}

func product(a, b words) wide {
	var n wide
	for i := range 4 {
		var above uint64
		for j := range 4 {
			high, low := bits.Mul64(a[i], b[j])
			low, over := bits.Add64(low, n[i+j], 0)
			high += over
			n[i+j], over = bits.Add64(low, above, 0)
			above = high + over
		}
		n[i+4] = above
	}
	return n
}

// negative is l less what is left of a.
func negative(a words) words {
	a = rest(sum(a, words{}))
	n := words{l0, l1, l2, l3}
	var under uint64
	for i := range 4 {
		n[i], under = bits.Sub64(n[i], a[i], under)
	}
	return n
}

// rest is what is left of n modulo l.
func rest(n wide) words {
	low := 5
	for low > 1 && n[low+2] == 0 {
		low--
	}
	// Three words are below l whatever they are: the bits of the low words are shifted up into them, and l comes off at most once a bit.
	r := words{n[low], n[low+1], n[low+2]}
	for i := range 64 * low {
		at := 64*low - 1 - i
		r[3] = r[3]<<1 | r[2]>>63
		r[2] = r[2]<<1 | r[1]>>63
		r[1] = r[1]<<1 | r[0]>>63
		r[0] = r[0]<<1 | n[at/64]>>(at%64)&1
		if r[3] >= l3 { // else it is below l whatever the other words are
			takeOff(&r)
		}
	}
	return r
}

// takeOff takes l off r, unless that goes below 0. It works in place, since rest asks for it with each bit.
func takeOff(r *words) {
	s0, under := bits.Sub64(r[0], l0, 0)
	s1, under := bits.Sub64(r[1], l1, under)
	s2, under := bits.Sub64(r[2], l2, under)
	s3, under := bits.Sub64(r[3], l3, under)
	if under == 0 {
		*r = words{s0, s1, s2, s3}
	}
}
