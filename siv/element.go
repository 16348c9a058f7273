package siv

// modulus is x^128 + x^127 + x^126 + x^121 + 1 divided by x, where its 1 has fallen out: the highest word of it, the other one is 0.
const modulus = 0xe1 << 56

// Dot multiplies from x^0 on and divides by x behind each step: so the times x^-128 comes by itself.
func Dot(a, b [16]byte) [16]byte {
	low, high := words(b)
	var l, h uint64
	for i := range 128 {
		// No branch hangs on a bit: the mask is all ones, or noughts.
		bit := -uint64(a[i/8] >> (i % 8) & 1)
		l, h = divided(l^low&bit, h^high&bit)
	}
	return joined(l, h)
}

// divided is the element divided by x: where there is an x^0, the modulus added takes it away.
func divided(low, high uint64) (uint64, uint64) {
	return low>>1 | high<<63, high>>1 ^ modulus&-(low&1)
}

func Polyval(h [16]byte, b []byte) [16]byte {
	return absorbed([size]byte{}, h, b)
}

// absorbed is what s becomes with each block of the bytes, filled up: so that bytes are taken one behind the other where they lie.
func absorbed(s, h [size]byte, b []byte) [size]byte {
	for len(b) > 0 {
		n := min(size, len(b))
		for i, x := range b[:n] {
			s[i] ^= x
		}
		s = Dot(s, h)
		b = b[n:]
	}
	return s
}

// words are the element's halves, the coefficients of x^0 to x^63 first.
func words(a [size]byte) (low, high uint64) {
	for i := range 8 {
		low |= uint64(a[i]) << (8 * i)
		high |= uint64(a[8+i]) << (8 * i)
	}
	return low, high
}

// joined is the block of two words, each with its lowest byte first.
func joined(low, high uint64) [size]byte {
	var a [size]byte
	for i := range 8 {
		a[i] = byte(low >> (8 * i))
		a[8+i] = byte(high >> (8 * i))
	}
	return a
}
