package limb

import "math/bits"

// p's words, from the second one on.
const (
	ones = 1<<64 - 1
	top  = 1<<63 - 1
)

// settle is the canonical element of four words and over times 2^256; over is at most 2^32.
func settle(w0, w1, w2, w3, over uint64) Fe {
	// 2^255 is p and 19 more: so what stands above counts 19 times, and less than 2 p is left.
	w0, w1, w2, w3 = plusWord(w0, w1, w2, w3&top, 19*(over<<1|w3>>63))
	if w3 < top {
		return Fe{w0, w1, w2, w3}
	}
	// For the same reason 19 more reach 2^255 just where p is reached.
	v0, v1, v2, v3 := plusWord(w0, w1, w2, w3, 19)
	if v3 > top {
		return Fe{v0, v1, v2, v3 & top}
	}
	return Fe{w0, w1, w2, w3}
}

// plusWord may not go over 2^256: it would lose that.
func plusWord(w0, w1, w2, w3, n uint64) (uint64, uint64, uint64, uint64) {
	w0, n = bits.Add64(w0, n, 0)
	w1, n = bits.Add64(w1, n, 0)
	w2, n = bits.Add64(w2, n, 0)
	return w0, w1, w2, w3 + n
}

// timesPlus is a b + c + d, which never needs a third word: of words of ones it is 2^128 - 1.
func timesPlus(a, b, c, d uint64) (low, high uint64) {
	high, low = bits.Mul64(a, b)
	low, over := bits.Add64(low, c, 0)
	high += over
	low, over = bits.Add64(low, d, 0)
	return low, high + over
}
