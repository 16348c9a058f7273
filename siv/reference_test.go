package siv_test

import (
	"bytes"
	library "crypto/aes"
	"crypto/cipher"
	"encoding/binary"
	"encoding/hex"
	"math/big"
	"math/rand"
	"slices"
	"strings"
	"testing"
)

// What the chapter says, worked out anew: elements as polynomials in math/big, blocks enciphered by Go's library.

type (
	key   = [32]byte
	nonce = [12]byte
	block = [16]byte
)

// unhex is the bytes that are written, whatever spaces are between them.
func unhex(t *testing.T, text string) []byte {
	t.Helper()
	b, err := hex.DecodeString(strings.Join(strings.Fields(text), ""))
	if err != nil {
		t.Fatal(err)
	}
	return b
}

// drawn are that many bytes, the same ones for the same seed.
func drawn(seed int64, n int) []byte {
	b := make([]byte, n)
	rand.New(rand.NewSource(seed)).Read(b)
	return b
}

func drawnKey(seed int64) (key, nonce) {
	b := drawn(seed, 44)
	return key(b[:32]), nonce(b[32:])
}

func filled(x byte) block {
	return block(bytes.Repeat([]byte{x}, 16))
}

// polynomial has the coefficient of x^i at its bit i; bytes tell the lowest eight of them first.
func polynomial(a block) *big.Int {
	slices.Reverse(a[:])
	return new(big.Int).SetBytes(a[:])
}

func element(p *big.Int) block {
	var a block
	p.FillBytes(a[:])
	slices.Reverse(a[:])
	return a
}

func powers(exponents ...int) *big.Int {
	p := new(big.Int)
	for _, e := range exponents {
		p.SetBit(p, e, 1)
	}
	return p
}

func product(a, b *big.Int) *big.Int {
	p := new(big.Int)
	for i := range b.BitLen() {
		if b.Bit(i) == 1 {
			p.Xor(p, new(big.Int).Lsh(a, uint(i)))
		}
	}
	return p
}

func remainder(a *big.Int) *big.Int {
	modulus := powers(128, 127, 126, 121, 0)
	r := new(big.Int).Set(a)
	for r.BitLen() > 128 {
		r.Xor(r, new(big.Int).Lsh(modulus, uint(r.BitLen()-129)))
	}
	return r
}

// shrink is x^-128: a test of its own holds it against x^128.
func shrink() *big.Int { return powers(127, 124, 121, 114, 0) }

func dot(a, b block) block {
	p := product(polynomial(a), polynomial(b))
	return element(remainder(product(remainder(p), shrink())))
}

func added(a, b block) block {
	for i := range a {
		a[i] ^= b[i]
	}
	return a
}

// undotted is the u whose dot with h is v: dot's group has 2^128 - 1 elements, so that the power 2^128 - 2 of h is its inverse.
func undotted(v, h block) block {
	for range 127 {
		h = dot(h, h)
		v = dot(v, h)
	}
	return v
}

func filledUp(b []byte) []byte {
	return append(slices.Clone(b), make([]byte, (16-len(b)%16)%16)...)
}

func polyval(h block, blocks []byte) block {
	var s block
	for c := range slices.Chunk(blocks, 16) {
		s = dot(added(s, block(c)), h)
	}
	return s
}

func under(k []byte) cipher.Block {
	c, err := library.NewCipher(k)
	if err != nil {
		panic(err)
	}
	return c
}

func twoKeys(k key, n nonce) (first block, second key) {
	var all []byte
	for i := range uint32(6) {
		b := append(binary.LittleEndian.AppendUint32(nil, i), n[:]...)
		under(k[:]).Encrypt(b, b)
		all = append(all, b[:8]...)
	}
	return block(all[:16]), key(all[16:])
}

// lengthsOf is the last block that a tag sums.
func lengthsOf(aad, text int) []byte {
	b := binary.LittleEndian.AppendUint64(nil, uint64(aad)*8)
	return binary.LittleEndian.AppendUint64(b, uint64(text)*8)
}

func tagOf(k key, n nonce, aad, text []byte) block {
	first, second := twoKeys(k, n)
	s := polyval(first, slices.Concat(filledUp(aad), filledUp(text), lengthsOf(len(aad), len(text))))
	for i := range n {
		s[i] ^= n[i]
	}
	s[15] &= 0x7f
	under(second[:]).Encrypt(s[:], s[:])
	return s
}

// streamed is the text with the tag's stream added to it.
func streamed(k key, n nonce, tag block, text []byte) []byte {
	_, second := twoKeys(k, n)
	tag[15] |= 0x80
	first := binary.LittleEndian.Uint32(tag[:])
	var all []byte
	for i := 0; len(all) < len(text); i++ {
		binary.LittleEndian.PutUint32(tag[:], first+uint32(i))
		var b block
		under(second[:]).Encrypt(b[:], tag[:])
		all = append(all, b[:]...)
	}
	out := make([]byte, len(text))
	for i := range out {
		out[i] = text[i] ^ all[i]
	}
	return out
}

func sealed(k key, n nonce, aad, text []byte) []byte {
	tag := tagOf(k, n, aad, text)
	return append(streamed(k, n, tag, text), tag[:]...)
}

// textOf is a text whose tag is the one that is asked for: the first bytes, whole blocks, and the rest are given, the block between them is not; false, if no text has this tag.
func textOf(k key, n nonce, aad, first, rest []byte, tag block) ([]byte, bool) {
	h, second := twoKeys(k, n)
	var s block
	under(second[:]).Decrypt(s[:], tag[:])
	if s[15]&0x80 != 0 {
		return nil, false
	}
	for i := range n {
		s[i] ^= n[i]
	}
	behind := append(filledUp(rest), lengthsOf(len(aad), len(first)+16+len(rest))...)
	for at := len(behind) - 16; at >= 0; at -= 16 {
		s = added(undotted(s, h), block(behind[at:]))
	}
	between := added(undotted(s, h), polyval(h, append(filledUp(aad), first...)))
	return slices.Concat(first, between[:], rest), true
}

func TestShrinkTimesItsOppositeIsOne(t *testing.T) {
	if r := remainder(product(shrink(), powers(128))); r.Cmp(big.NewInt(1)) != 0 {
		t.Fatalf("x^-128 times x^128 is %x", r)
	}
}
