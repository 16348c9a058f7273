package aes_test

import (
	library "crypto/aes"
	"math/rand"
	"testing"

	"vestry/aes"
)

func filled(x byte) block {
	var b block
	for i := range b {
		b[i] = x
	}
	return b
}

// turned is the block with one bit turned.
func turned(b block, bit int) block {
	b[bit/8] ^= 1 << (bit % 8)
	return b
}

// blocks are noughts, bytes ff, those of all equal bytes, all with one bit and all but one bit, and drawn ones.
func blocks() []block {
	var l []block
	for x := range 256 {
		l = append(l, filled(byte(x)))
	}
	for bit := range 128 {
		l = append(l, turned(filled(0), bit), turned(filled(0xff), bit))
	}
	r := rand.New(rand.NewSource(16))
	for range 300 {
		var b block
		r.Read(b[:])
		l = append(l, b)
	}
	return l
}

// checkEncrypt holds what is enciphered against the library's, there and back.
func checkEncrypt(t *testing.T, k key, list ...block) {
	t.Helper()
	c, err := library.NewCipher(k[:])
	if err != nil {
		t.Fatal(err)
	}
	for _, b := range list {
		var want, back block
		c.Encrypt(want[:], b[:])
		got := aes.Encrypt(k, b)
		if got != want {
			t.Errorf("Encrypt of %x under %x is %x, want %x", b, k, got, want)
		}
		if c.Decrypt(back[:], got[:]); back != b {
			t.Errorf("Encrypt of %x under %x is %x, which is deciphered as %x", b, k, got, back)
		}
	}
}

func TestEncryptOfManyBlocksUnderFewKeys(t *testing.T) {
	all := blocks()
	for _, k := range append(drawnKeys(10), full(0), full(0xff), counted(), spread(t)) {
		checkEncrypt(t, k, all...)
	}
}

func TestEncryptOfFewBlocksUnderManyKeys(t *testing.T) {
	all := blocks()
	few := []block{filled(0), filled(0xff), all[len(all)-1]}
	for _, k := range keys(t) {
		checkEncrypt(t, k, few...)
	}
}

// A chain of answers: each is the next one's block, and a part of its key.
func TestEncryptOfItsOwnAnswers(t *testing.T) {
	k, b := full(0), filled(0)
	for i := range 2000 {
		checkEncrypt(t, k, b)
		b = aes.Encrypt(k, b)
		copy(k[i%17:], b[:])
	}
}

// What FIPS 197 and SP 800-38A list for keys of 256 bits, and the blocks and keys of noughts and of ff.
func TestKnownBlocks(t *testing.T) {
	for _, c := range []struct {
		k           key
		block, want string
	}{
		{counted(), "00112233 44556677 8899aabb ccddeeff", "8ea2b7ca 516745bf eafc4990 4b496089"},
		{spread(t), "6bc1bee2 2e409f96 e93d7e11 7393172a", "f3eed1bd b5d2a03c 064b5a7e 3db181f8"},
		{spread(t), "ae2d8a57 1e03ac9c 9eb76fac 45af8e51", "591ccb10 d410ed26 dc5ba74a 31362870"},
		{spread(t), "30c81c46 a35ce411 e5fbc119 1a0a52ef", "b6ed21b9 9ca6f4f9 f153e7b1 beafed1d"},
		{spread(t), "f69f2445 df4f9b17 ad2b417b e66c3710", "23304b7a 39f9f3ff 067d8d8f 9e24ecc7"},
		{full(0), "00000000 00000000 00000000 00000000", "dc95c078 a2408989 ad48a214 92842087"},
		{full(0), "ffffffff ffffffff ffffffff ffffffff", "acdace80 78a32b1a 182bfa49 87ca1347"},
		{full(0xff), "00000000 00000000 00000000 00000000", "4bf85f1b 5d54adbc 307b0a04 8389adcb"},
		{full(0xff), "ffffffff ffffffff ffffffff ffffffff", "d5f93d6d 3311cb30 9f23621b 02fbd5e2"},
	} {
		got := aes.Encrypt(c.k, block(unhex(t, c.block)))
		if want := block(unhex(t, c.want)); got != want {
			t.Errorf("Encrypt of %s under %x is %x, want %x", c.block, c.k, got, want)
		}
	}
}

func TestUnlikeBlocksStayUnlike(t *testing.T) {
	all := blocks()
	for _, k := range append(drawnKeys(5), full(0), full(0xff), counted()) {
		from := map[block]block{}
		for _, b := range all {
			c := aes.Encrypt(k, b)
			if other, ok := from[c]; ok {
				t.Errorf("Encrypt of %x and of %x under %x is %x", other, b, k, c)
			}
			from[c] = b
		}
		if len(from) != len(all) {
			t.Errorf("%d blocks under %x make %d", len(all), k, len(from))
		}
	}
}

// One bit more or less changes each of the four columns, wherever it is: fourteen rounds mix them all.
func TestOneBitMakesUnlikeBlocks(t *testing.T) {
	for _, k := range append(drawnKeys(5), full(0), full(0xff)) {
		for _, b := range []block{filled(0), filled(0xff), filled(0x5a), block(k[8:])} {
			first := aes.Encrypt(k, b)
			from := map[block]int{first: -1}
			for bit := range 128 {
				c := aes.Encrypt(k, turned(b, bit))
				if other, ok := from[c]; ok {
					t.Errorf("Encrypt of %x under %x is one with the bits %d and %d turned", b, k, other, bit)
				}
				from[c] = bit
				for q := 0; q < 16; q += 4 {
					if word(c[q:]) == word(first[q:]) {
						t.Errorf("the bit %d of %x under %x leaves the column %d as it was", bit, b, k, q/4)
					}
				}
			}
		}
	}
}

func TestOneBitOfTheKeyMakesUnlikeBlocks(t *testing.T) {
	for _, k := range append(drawnKeys(3), full(0), full(0xff)) {
		from := map[block]int{aes.Encrypt(k, filled(7)): -1}
		for bit := range 256 {
			other := k
			other[bit/8] ^= 1 << (bit % 8)
			c := aes.Encrypt(other, filled(7))
			if before, ok := from[c]; ok {
				t.Errorf("Encrypt under %x is one with the bits %d and %d turned", k, before, bit)
			}
			from[c] = bit
		}
	}
}

func TestEncryptLeavesKeyAndBlockAsTheyWere(t *testing.T) {
	for _, k := range append(drawnKeys(20), full(0), full(0xff)) {
		for _, b := range blocks()[:50] {
			sameKey, sameBlock := k, b
			first := aes.Encrypt(k, b)
			kept := first
			clear(first[:])
			if k != sameKey || b != sameBlock {
				t.Errorf("the key %x or the block %x has become %x, %x", sameKey, sameBlock, k, b)
			}
			if aes.Encrypt(k, b) != kept {
				t.Errorf("Encrypt of %x under %x is another one when it is asked again", b, k)
			}
		}
	}
}

func TestExamples(t *testing.T) {
	if got := aes.Mul(0x57, 0x83); got != 0xc1 {
		t.Errorf("Mul of 57 and 83 is %02x", got)
	}
	if got := aes.Sub(0x53); got != 0xed {
		t.Errorf("Sub of 53 is %02x", got)
	}
	got := aes.Encrypt(counted(), block(unhex(t, "00112233 44556677 8899aabb ccddeeff")))
	if want := block(unhex(t, "8ea2b7ca 516745bf eafc4990 4b496089")); got != want {
		t.Errorf("Encrypt of the example is %x, want %x", got, want)
	}
}
