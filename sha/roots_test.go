package sha

import (
	"math/big"
	"testing"
)

// primes are the first n of them.
func primes(n int) []int64 {
	var l []int64
	for p := int64(2); len(l) < n; p++ {
		if big.NewInt(p).ProbablyPrime(20) {
			l = append(l, p)
		}
	}
	return l
}

// behindPoint is the first bits behind the point of the root of n of that power: the greatest r with r^power <= n 2^(bits power), without what stands ahead of the point.
func behindPoint(n int64, power, bits uint) uint64 {
	whole := new(big.Int).Lsh(big.NewInt(n), bits*power)
	r := new(big.Int)
	for i := int(bits) + 16; i >= 0; i-- {
		r.SetBit(r, i, 1)
		if new(big.Int).Exp(r, big.NewInt(int64(power)), nil).Cmp(whole) > 0 {
			r.SetBit(r, i, 0)
		}
	}
	mask := new(big.Int).Sub(new(big.Int).Lsh(big.NewInt(1), bits), big.NewInt(1))
	return r.And(r, mask).Uint64()
}

func TestConstants(t *testing.T) {
	if len(constants256) != 64 || len(constants512) != 80 {
		t.Fatalf("%d and %d constants", len(constants256), len(constants512))
	}
	for k, p := range primes(80) {
		if want := behindPoint(p, 3, 64); constants512[k] != want {
			t.Errorf("SHA-512's constant %d is %x, of the prime %d it is %x", k, constants512[k], p, want)
		}
		if k >= 64 {
			continue
		}
		if want := behindPoint(p, 3, 32); uint64(constants256[k]) != want {
			t.Errorf("SHA-256's constant %d is %x, of the prime %d it is %x", k, constants256[k], p, want)
		}
	}
}

func TestBeginnings(t *testing.T) {
	s, l := beginning256(), beginning512()
	for k, p := range primes(8) {
		if want := behindPoint(p, 2, 32); uint64(s[k]) != want {
			t.Errorf("SHA-256's beginning %d is %x, of the prime %d it is %x", k, s[k], p, want)
		}
		if want := behindPoint(p, 2, 64); l[k] != want {
			t.Errorf("SHA-512's beginning %d is %x, of the prime %d it is %x", k, l[k], p, want)
		}
	}
}

// filledUp is the text filled up as the chapter says it: one nought more, till it is whole blocks.
func filledUp(text []byte, block, length int) []byte {
	out := append(append([]byte{}, text...), 0x80)
	for (len(out)+length)%block != 0 {
		out = append(out, 0)
	}
	bits := big.NewInt(int64(len(text)))
	bits.Mul(bits, big.NewInt(8))
	return append(out, bits.FillBytes(make([]byte, length))...)
}

// What ending answers is the filled up text's end, at every length that a few blocks have, and at some whose bits fill three bytes of the length.
func TestEnding(t *testing.T) {
	var lengths []int
	for n := range 700 {
		lengths = append(lengths, n)
	}
	lengths = append(lengths, 1<<13-1, 1<<13, 1<<13+1, 1<<16, 1<<21, 1<<21+55)
	for _, n := range lengths {
		text := make([]byte, n)
		for i := range text {
			text[i] = byte(255 - i%251)
		}
		for _, form := range [][2]int{{block256, length256}, {block512, length512}} {
			block, length := form[0], form[1]
			want := filledUp(text, block, length)[n-n%block:]
			if got := ending(text, block, length); string(got) != string(want) {
				t.Errorf("behind %d bytes, in blocks of %d: %x, want %x", n, block, got, want)
			}
		}
	}
}
