package bind_test

import (
	"bytes"
	"crypto/sha512"
	"math"
	"math/rand"
	"slices"
	"testing"

	"vestry/algebra"
	"vestry/api"
	"vestry/bind"
	"vestry/mac"
)

// What the chapter says, written out anew: each transcript byte by byte, and what is asked of it by Go's own SHA-512.

// formed is a text's form.
func formed(text []byte) []byte {
	n := len(text)
	return append([]byte{byte(n / (1 << 24)), byte(n / (1 << 16)), byte(n / (1 << 8)), byte(n)}, text...)
}

// item is bytes under a label.
type item struct {
	label string
	b     []byte
}

func written(label string, items ...item) []byte {
	out := formed([]byte(label))
	for _, x := range items {
		out = slices.Concat(out, []byte{1}, formed([]byte(x.label)), formed(x.b))
	}
	return out
}

func made(label string, items ...item) *bind.Script {
	s := bind.New(label)
	for _, x := range items {
		s.Add(x.label, x.b)
	}
	return s
}

func askedOf(transcript []byte, q byte, label string) [64]byte {
	return sha512.Sum512(slices.Concat(transcript, []byte{q}, formed([]byte(label))))
}

func derived(secret, info []byte, n int) []byte {
	b, _ := mac.Derive(nil, secret, info, n)
	return b
}

func bytesOf(transcript []byte, label string, n int) []byte {
	return derived(transcript, append([]byte{4}, formed([]byte(label))...), n)
}

func checkScalarAndPoint(t *testing.T, what string, s *bind.Script, transcript []byte, label string) {
	t.Helper()
	if got, want := s.Scalar(label), algebra.Reduce(askedOf(transcript, 2, label)); got != want {
		t.Errorf("%s: Scalar under %.20q is %x, want %x", what, label, got, want)
	}
	if got, want := s.Point(label), algebra.Map(askedOf(transcript, 3, label)); got != want {
		t.Errorf("%s: Point under %.20q is %x, want %x", what, label, got, want)
	}
}

func checkBytes(t *testing.T, what string, s *bind.Script, transcript []byte, label string, n int) {
	t.Helper()
	got, want := s.Bytes(label, n), bytesOf(transcript, label, n)
	if len(got) != n || !bytes.Equal(got, want) {
		t.Errorf("%s: Bytes under %.20q, %d, are %.40x.. (%d bytes), want %.40x..", what, label, n, got, len(got), want)
	}
}

// checkAll asks a script everything, as its transcript was written out.
func checkAll(t *testing.T, what string, s *bind.Script, transcript []byte) {
	t.Helper()
	for _, label := range []string{"", "x", "challenge"} {
		checkScalarAndPoint(t, what, s, transcript, label)
		checkBytes(t, what, s, transcript, label, 33)
	}
}

// drawOf is the draw of that count.
func drawOf(seed []byte, count uint64) [64]byte {
	eight := make([]byte, 8)
	for i := range eight {
		eight[7-i] = byte(count)
		count /= 256
	}
	return sha512.Sum512(slices.Concat(formed(seed), []byte{5}, eight))
}

func scalarOf(seed []byte, count uint64) api.Scalar { return algebra.Reduce(drawOf(seed, count)) }

func drawnBytes(seed []byte, count uint64, n int) []byte {
	b := drawOf(seed, count)
	return derived(b[:], nil, n)
}

// some are that many bytes, the same ones for the same number.
func some(n int) []byte {
	b := make([]byte, n)
	rand.New(rand.NewSource(int64(n) + 3)).Read(b)
	return b
}

// lengths lie at the edges of what one byte, and two, tell.
func lengths() []int { return []int{0, 1, 2, 255, 256, 257, 70000} }

// taken are lengths that may be asked for, at the edges of the sums; refused ones that may not be.
func taken() []int { return []int{0, 1, 2, 31, 32, 33, 63, 64, 65, 8159, 8160} }

func refused() []int {
	return []int{-1, -2, -33, -8160, 8161, 8162, 8192, math.MinInt, math.MinInt32, math.MaxInt32, math.MaxInt, 1<<32 + 5}
}

// guarded is the bytes with room behind them, and a function that tells whether bytes and room are as they were.
func guarded(b []byte) ([]byte, func() bool) {
	whole := append(slices.Clone(b), bytes.Repeat([]byte{0xa5}, 100)...)
	before := slices.Clone(whole)
	return whole[:len(b)], func() bool { return bytes.Equal(whole, before) }
}

// scribbled overwrites bytes and the room behind them.
func scribbled(b []byte) {
	b = b[:cap(b)]
	for i := range b {
		b[i] ^= 0xff
	}
}
