package siv

import "vestry/aes"

// top is the highest bit of a byte.
const top = 0x80

func Keys(key [32]byte, nonce [12]byte) (block [16]byte, text [32]byte) {
	for n := range 2 {
		copy(block[8*n:], half(key, nonce, byte(n)))
	}
	for n := range 4 {
		copy(text[8*n:], half(key, nonce, byte(n+2)))
	}
	return block, text
}

// half is the eight bytes that the number n gives a key: all numbers are below 6, so that one byte tells them.
func half(key [32]byte, nonce [12]byte, n byte) []byte {
	b := [size]byte{n}
	copy(b[4:], nonce[:])
	b = aes.Encrypt(key, b)
	return b[:8]
}

func tagOf(block [size]byte, textKey [32]byte, nonce [12]byte, aad, text []byte) [size]byte {
	s := absorbed([size]byte{}, block, aad)
	s = absorbed(s, block, text)
	both := lengths(len(aad), len(text))
	s = absorbed(s, block, both[:])
	for i, b := range nonce {
		s[i] ^= b
	}
	s[size-1] &^= top
	return aes.Encrypt(textKey, s)
}

// lengths is the block of both lengths in bits.
func lengths(aad, text int) [size]byte {
	return joined(8*uint64(aad), 8*uint64(text))
}

// stream answers the tag's stream by a function whose calls tell its blocks, in order.
func stream(textKey [32]byte, tag [size]byte) func() [size]byte {
	c := tag
	c[size-1] |= top
	return func() [size]byte {
		b := aes.Encrypt(textKey, c)
		c = oneMore(c)
		return b
	}
}

// oneMore carries no further than the fourth byte: the number there is modulo 2^32.
func oneMore(c [size]byte) [size]byte {
	for i := range 4 {
		c[i]++
		if c[i] != 0 {
			break
		}
	}
	return c
}
