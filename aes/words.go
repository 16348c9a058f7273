package aes

func Words(key [32]byte) [60][4]byte {
	var w [60][4]byte
	for i := range 8 {
		w[i] = [4]byte{key[4*i], key[4*i+1], key[4*i+2], key[4*i+3]}
	}
	for i := 8; i < len(w); i++ {
		w[i] = sum(w[i-8], changed(w[i-1], i))
	}
	return w
}

// changed is what the word ahead of the word i becomes, before it is added.
func changed(w [4]byte, i int) [4]byte {
	switch i % 8 {
	case 0:
		w = each([4]byte{w[1], w[2], w[3], w[0]})
		// Twos are multiplied by a shift: there are at most six of them, which never reach x^8.
		w[0] ^= 1 << (i/8 - 1)
	case 4:
		w = each(w)
	}
	return w
}

// each is the word with each byte made its substitute.
func each(w [4]byte) [4]byte {
	return [4]byte{Sub(w[0]), Sub(w[1]), Sub(w[2]), Sub(w[3])}
}

func sum(a, b [4]byte) [4]byte {
	return [4]byte{a[0] ^ b[0], a[1] ^ b[1], a[2] ^ b[2], a[3] ^ b[3]}
}
