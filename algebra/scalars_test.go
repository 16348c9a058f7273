package algebra_test

import (
	"math"
	"math/big"
	"testing"

	"vestry/algebra"
	"vestry/api"
	"vestry/residue"
)

// scalars are small and great ones, and drawn ones.
func scalars(others int) []api.Scalar {
	l := []api.Scalar{{}, {1}, {2}, {255}, orderPlus(-1), orderPlus(-2), inBytes(power(64)), inBytes(power(128)), inBytes(power(252)), inBytes(new(big.Int).Rsh(order(), 1))}
	draw := draws(4)
	for range others {
		l = append(l, drawnScalar(draw))
	}
	return l
}

func TestIsScalar(t *testing.T) {
	for _, s := range scalars(50) {
		if !algebra.IsScalar(s) {
			t.Errorf("IsScalar(%x) is false", s)
		}
	}
	for _, s := range wrongScalars() {
		if algebra.IsScalar(s) {
			t.Errorf("IsScalar(%x) is true", s)
		}
	}
	draw := draws(5)
	for range 400 {
		var s api.Scalar = drawnBytes(draw)
		s[31] &= 31 // so that about one half is below l
		if got, want := algebra.IsScalar(s), numberOf(s).Cmp(order()) < 0; got != want {
			t.Errorf("IsScalar(%x) = %v", s, got)
		}
	}
}

func TestOf(t *testing.T) {
	for _, n := range []uint64{0, 1, 2, 255, 256, 1 << 32, 0x0102030405060708, 1 << 63, math.MaxUint64} {
		if got := algebra.Of(n); got != inBytes(new(big.Int).SetUint64(n)) || !algebra.IsScalar(got) {
			t.Errorf("Of(%d) = %x", n, got)
		}
	}
}

// join is one of the three calls that join two scalars, by its name, with the oracle's and layer 2's.
type join struct {
	name  string
	call  func(a, b api.Scalar) (api.Scalar, api.Errno)
	want  func(a, b *big.Int) *big.Int
	below func(a, b api.Scalar) api.Scalar
}

func joins() []join {
	return []join{
		{"Plus", algebra.Plus, func(a, b *big.Int) *big.Int { return new(big.Int).Add(a, b) }, residue.Plus},
		{"Minus", algebra.Minus, func(a, b *big.Int) *big.Int { return new(big.Int).Sub(a, b) }, residue.Minus},
		{"Times", algebra.Times, func(a, b *big.Int) *big.Int { return new(big.Int).Mul(a, b) }, residue.Times},
	}
}

func TestJoinedScalars(t *testing.T) {
	l := scalars(12)
	for _, j := range joins() {
		for _, a := range l {
			for _, b := range l {
				got, e := j.call(a, b)
				if e != api.OK || got != scalarOf(j.want(numberOf(a), numberOf(b))) || got != j.below(a, b) {
					t.Fatalf("%s(%x, %x) = %x, %v", j.name, a, b, got, e)
				}
				if !algebra.IsScalar(got) {
					t.Fatalf("%s(%x, %x) = %x, which may not be", j.name, a, b, got)
				}
			}
		}
	}
}

func TestJoinedScalarsOfWhichOneMayNotBe(t *testing.T) {
	for _, j := range joins() {
		refused := func(a, b api.Scalar) {
			if got, e := j.call(a, b); e != api.ErrScalar || got != (api.Scalar{}) {
				t.Errorf("%s(%x, %x) = %x, %v", j.name, a, b, got, e)
			}
		}
		for _, wrong := range wrongScalars() {
			for _, s := range scalars(3) {
				refused(wrong, s)
				refused(s, wrong)
			}
			refused(wrong, wrong)
		}
	}
}

func TestInverse(t *testing.T) {
	for _, a := range scalars(40)[1:] {
		got, e := algebra.Inverse(a)
		if e != api.OK || got != inBytes(new(big.Int).ModInverse(numberOf(a), order())) || got != residue.Inverse(a) {
			t.Errorf("Inverse(%x) = %x, %v", a, got, e)
		}
		if one, e := algebra.Times(a, got); e != api.OK || one != algebra.Of(1) {
			t.Errorf("%x times its inverse = %x, %v", a, one, e)
		}
	}
	for _, a := range []api.Scalar{algebra.Of(1), orderPlus(-1)} { // they are their own
		if got, e := algebra.Inverse(a); e != api.OK || got != a {
			t.Errorf("Inverse(%x) = %x, %v", a, got, e)
		}
	}
}

func TestInverseOfWhatHasNone(t *testing.T) {
	for _, a := range append(wrongScalars(), api.Scalar{}, algebra.Of(0)) {
		if got, e := algebra.Inverse(a); e != api.ErrScalar || got != (api.Scalar{}) {
			t.Errorf("Inverse(%x) = %x, %v", a, got, e)
		}
	}
}

func checkReduce(t *testing.T, b [64]byte) {
	t.Helper()
	if got := algebra.Reduce(b); got != scalarOf(ofBytes(b[:])) || got != residue.Wide(b) || !algebra.IsScalar(got) {
		t.Errorf("Reduce(%x) = %x", b, got)
	}
}

func TestReduce(t *testing.T) {
	var ones [64]byte
	for i := range ones {
		ones[i] = 255
	}
	for _, b := range [][64]byte{{}, {1}, {31: 255}, {32: 1}, {63: 1}, {63: 128}, ones} {
		checkReduce(t, b)
	}
	for n := int64(-2); n <= 2; n++ { // beside l, in either half
		var low, high [64]byte
		s := orderPlus(n)
		copy(low[:], s[:])
		copy(high[32:], s[:])
		checkReduce(t, low)
		checkReduce(t, high)
	}
	draw := draws(6)
	for range 200 {
		var b [64]byte
		draw.Read(b[:])
		checkReduce(t, b)
	}
	if got := algebra.Reduce([64]byte{}); got != algebra.Of(0) {
		t.Errorf("Reduce of noughts = %x", got)
	}
}
