package risto_test

import (
	"testing"

	"vestry/edwards"
	"vestry/limb"
	"vestry/risto"
)

// checkEqual holds Equal of any coordinates, both ways round, against the products that the chapter names.
func checkEqual(t *testing.T, p, q edwards.Point) bool {
	t.Helper()
	across := same(times(value(p.X), value(q.Y)), times(value(p.Y), value(q.X)))
	along := same(times(value(p.Y), value(q.Y)), times(value(p.X), value(q.X)))
	got := risto.Equal(p, q)
	if got != (across || along) || risto.Equal(q, p) != got {
		t.Fatalf("Equal(%x, %x) = %v", p, q, got)
	}
	return got
}

func TestEqualOfTheFour(t *testing.T) {
	for _, a := range four() {
		for _, b := range four() {
			if !checkEqual(t, coordinates(a, number(1)), written(coordinates(b, number(7)))) {
				t.Errorf("%v and %v are not one", a, b)
			}
		}
		if checkEqual(t, coordinates(a, number(1)), edwards.Base()) {
			t.Errorf("%v and the base are one", a)
		}
	}
	if !risto.Equal(edwards.Identity(), edwards.Point{Y: limb.Neg(limb.Of(1)), Z: limb.Of(1)}) {
		t.Error("the identity and 0, -1 are not one")
	}
}

func TestEqualOfElements(t *testing.T) {
	l := elements(6, 6)
	draw := draws(5)
	for i, a := range l {
		for j, b := range l {
			for _, other := range asOne(b) {
				p, q := coordinates(a, value(drawn(draw))), coordinates(other, value(drawn(draw)))
				if checkEqual(t, p, q) != (i == j) || checkEqual(t, written(p), q) != (i == j) {
					t.Errorf("%v and %v: one is %v", a, other, i == j)
				}
			}
		}
		p := coordinates(a, number(1))
		if checkEqual(t, p, edwards.Neg(p)) != (i == 0) {
			t.Errorf("%v and its negative", a)
		}
	}
}

// TestEqualOfAnything: what is no point is taken too; each of both equations is enough; Z and T count for nothing.
func TestEqualOfAnything(t *testing.T) {
	draw := draws(6)
	nought := words(prime())
	for range 50 {
		p := edwards.Point{X: drawn(draw), Y: drawn(draw), Z: drawn(draw), T: drawn(draw)}
		z := drawn(draw)
		if checkEqual(t, p, edwards.Point{X: drawn(draw), Y: drawn(draw), Z: p.Z, T: p.T}) {
			t.Errorf("%x and what was drawn beside it", p)
		}
		if !checkEqual(t, p, edwards.Point{X: limb.Mul(p.X, z), Y: limb.Mul(p.Y, z)}) {
			t.Errorf("%x: X1 Y2 = Y1 X2 is not enough", p)
		}
		if !checkEqual(t, p, edwards.Point{X: limb.Mul(p.Y, z), Y: limb.Mul(p.X, z), Z: z}) {
			t.Errorf("%x: Y1 Y2 = X1 X2 is not enough", p)
		}
		if checkEqual(t, p, edwards.Point{X: limb.Neg(p.X), Y: p.Y, Z: p.Z, T: p.T}) {
			t.Errorf("%x and its negative", p)
		}
		if !checkEqual(t, p, edwards.Point{}) || !checkEqual(t, edwards.Point{X: nought, Y: nought, Z: nought, T: nought}, p) {
			t.Errorf("%x and noughts: all products are 0", p)
		}
		if checkEqual(t, p, edwards.Point{X: limb.Of(1)}) || checkEqual(t, p, edwards.Point{Y: limb.Of(1), X: nought}) {
			t.Errorf("%x and what has one nought", p)
		}
	}
	if !checkEqual(t, edwards.Point{}, edwards.Point{}) {
		t.Error("noughts and noughts")
	}
}
