// Package limb is layer 1: see shared/doc/01-limb.md.
package limb

import "math/bits"

// Fe is an element of the field.
type Fe [4]uint64

func Of(n uint64) Fe { return Fe{n} }

func Canon(a Fe) Fe {
	if a[3] < top { // below p whatever the other words are, as nearly all elements are
		return a
	}
	return settle(a[0], a[1], a[2], a[3], 0)
}

func Same(a, b Fe) bool { return Canon(a) == Canon(b) }

func Odd(a Fe) bool { return Canon(a)[0]&1 == 1 }

func Abs(a Fe) Fe {
	if Odd(a) {
		return Neg(a)
	}
	return Canon(a)
}

func Add(a, b Fe) Fe {
	var over uint64
	for i := range 4 {
		a[i], over = bits.Add64(a[i], b[i], over)
	}
	return settle(a[0], a[1], a[2], a[3], over)
}

func Sub(a, b Fe) Fe {
	a, b = Canon(a), Canon(b)
	var below uint64
	for i := range 4 {
		a[i], below = bits.Sub64(a[i], b[i], below)
	}
	// What went below 0 has become 2^256 more and should be p more: 2^255 and 19 are too many.
	// (What did not go below 0 has no bit 255 that could be lost.)
	a[3] &= top
	less := 19 * below
	for i := range 4 {
		a[i], less = bits.Sub64(a[i], less, 0)
	}
	return a
}

func Neg(a Fe) Fe { return Sub(Fe{}, a) }

func Mul(a, b Fe) Fe {
	// The upper half is kept in variables of its own, not in an array, since those stay in registers: all layers above wait for this product.
	var low [4]uint64
	var h0, h1, h2, h3, over uint64
	for i := range 4 {
		low[i], over = timesPlus(a[i], b[0], h0, 0)
		h0, over = timesPlus(a[i], b[1], h1, over)
		h1, over = timesPlus(a[i], b[2], h2, over)
		h2, h3 = timesPlus(a[i], b[3], h3, over)
	}
	// 2^256 is 2 p and 38 more: so the upper half counts 38 times.
	h0, over = timesPlus(h0, 38, low[0], 0)
	h1, over = timesPlus(h1, 38, low[1], over)
	h2, over = timesPlus(h2, 38, low[2], over)
	h3, over = timesPlus(h3, 38, low[3], over)
	return settle(h0, h1, h2, h3, over)
}

func Bytes(a Fe) [32]byte {
	a = Canon(a)
	var b [32]byte
	for i := range 32 {
		b[i] = byte(a[i/8] >> (i % 8 * 8))
	}
	return b
}

func Read(b [32]byte) (a Fe, canonical bool) {
	for i := range 32 {
		a[i/8] |= uint64(b[i]) << (i % 8 * 8)
	}
	c := Canon(a)
	return c, c == a
}
