package risto

import (
	"testing"

	"vestry/edwards"
	"vestry/limb"
)

func TestTheFourNumbers(t *testing.T) {
	one, d := limb.Of(1), edwards.D()
	under := limb.Sub(limb.Neg(one), d)
	n, square := limb.Root(one, under)
	if !square || rootOver() != n || limb.Mul(limb.Mul(n, n), under) != one {
		t.Errorf("N = %x, want %x", rootOver(), n)
	}
	m := oddRoot()
	if !limb.Odd(m) || limb.Mul(m, m) != under || m != limb.Canon(m) {
		t.Errorf("M = %x", m)
	}
	if want := limb.Sub(one, limb.Mul(d, d)); lessSquare() != want {
		t.Errorf("A = %x, want %x", lessSquare(), want)
	}
	if want := limb.Mul(limb.Sub(d, one), limb.Sub(d, one)); squareLess() != want {
		t.Errorf("B = %x, want %x", squareLess(), want)
	}
}
