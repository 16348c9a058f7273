package risto

import (
	"vestry/edwards"
	"vestry/limb"
)

func Map(b [64]byte) edwards.Point {
	var first, last [32]byte
	for i := range 32 {
		first[i], last[i] = b[i], b[32+i]
	}
	return edwards.Add(half(first), half(last))
}

// half is half of a map, of the element that the bytes without their highest bit are.
func half(b [32]byte) edwards.Point {
	b[31] &= 127
	t, _ := limb.Read(b)
	one := limb.Of(1)
	r := limb.Mul(limb.I(), limb.Mul(t, t))
	u := limb.Mul(limb.Add(r, one), lessSquare())
	v := limb.Mul(limb.Neg(limb.Add(one, limb.Mul(r, edwards.D()))), limb.Add(r, edwards.D()))
	s, square := limb.Root(u, v)
	c := limb.Neg(one)
	if !square {
		s, c = limb.Neg(limb.Abs(limb.Mul(s, t))), r
	}
	n := limb.Sub(limb.Mul(limb.Mul(c, limb.Sub(r, one)), squareLess()), v)
	ss := limb.Mul(s, s)
	w0, w1 := limb.Mul(limb.Add(s, s), v), limb.Mul(n, oddRoot())
	w2, w3 := limb.Sub(one, ss), limb.Add(one, ss)
	return edwards.Point{X: limb.Mul(w0, w3), Y: limb.Mul(w2, w1), Z: limb.Mul(w1, w3), T: limb.Mul(w0, w2)}
}
