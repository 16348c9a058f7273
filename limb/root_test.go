package limb_test

import (
	"math/big"
	"testing"

	"vestry/limb"
)

// checkRoot holds an answer of Root against the promise's own words.
func checkRoot(t *testing.T, u, v fe) {
	t.Helper()
	r, square := limb.Root(u, v)
	if r != canonical(number(r)) || r[0]%2 == 1 {
		t.Errorf("Root(%x, %x) = %x: not canonical, or odd", u, v, r)
	}
	x, y := number(canonical(number(u))), number(canonical(number(v)))
	if x.Sign() == 0 || y.Sign() == 0 {
		if r != (fe{}) || square != (x.Sign() == 0) {
			t.Errorf("Root(%x, %x) = %x, %v", u, v, r, square)
		}
		return
	}
	// u / v is a square just if u v is.
	wanted := big.Jacobi(new(big.Int).Mul(x, y), prime()) == 1
	want := canonical(x)
	if !wanted {
		want = canonical(new(big.Int).Mul(x, number(limb.I())))
	}
	got := new(big.Int).Mul(y, new(big.Int).Mul(number(r), number(r)))
	if square != wanted || canonical(got) != want {
		t.Errorf("Root(%x, %x) = %x, %v: v r r is %x, want %x, %v", u, v, r, square, canonical(got), want, wanted)
	}
}

func TestRoot(t *testing.T) {
	l := samples(20)
	for _, u := range l {
		for _, v := range l {
			checkRoot(t, u, v)
		}
	}
}

func TestRootOfSmallNumbers(t *testing.T) {
	squares, others := 0, 0
	for n := range uint64(60) {
		for _, v := range []fe{limb.Of(1), limb.Of(2), limb.Neg(limb.Of(1)), primePlus(3)} {
			checkRoot(t, limb.Of(n), v)
			checkRoot(t, limb.Neg(limb.Of(n)), v)
		}
		if _, square := limb.Root(limb.Of(n), limb.Of(1)); square {
			squares++
		} else {
			others++
		}
	}
	if squares < 10 || others < 10 {
		t.Errorf("%d squares, %d others: one kind is hardly tried", squares, others)
	}
}

func TestRootOfASquare(t *testing.T) {
	for _, a := range samples(100) {
		if r, square := limb.Root(limb.Mul(a, a), limb.Of(1)); !square || r != limb.Abs(a) {
			t.Errorf("Root of the square of %x = %x, %v", a, r, square)
		}
	}
}

func TestRootAtItsEdges(t *testing.T) {
	zero, p := limb.Of(0), primePlus(0)
	for _, c := range []struct {
		u, v, r fe
		square  bool
	}{
		{limb.Of(4), limb.Of(1), limb.Of(2), true},
		{primePlus(4), primePlus(1), limb.Of(2), true},
		{zero, zero, zero, true},
		{p, p, zero, true},
		{zero, limb.Of(5), zero, true},
		{p, limb.Of(2), zero, true},
		{limb.Of(1), zero, zero, false},
		{limb.Of(2), zero, zero, false},
		{limb.Of(4), p, zero, false},
		{limb.Of(1), limb.Of(1), limb.Neg(limb.Of(1)), true}, // 1 is odd, -1 is not
		{limb.Neg(limb.Of(1)), limb.Of(1), limb.Abs(limb.I()), true},
	} {
		if r, square := limb.Root(c.u, c.v); r != c.r || square != c.square {
			t.Errorf("Root(%x, %x) = %x, %v, want %x, %v", c.u, c.v, r, square, c.r, c.square)
		}
	}
	r, square := limb.Root(limb.Of(2), limb.Of(1))
	if square || limb.Odd(r) || limb.Mul(r, r) != limb.Mul(limb.Of(2), limb.I()) {
		t.Errorf("Root(2, 1) = %x, %v", r, square)
	}
}
