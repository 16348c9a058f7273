package edwards_test

import (
	"math/big"
	"testing"

	"vestry/edwards"
	"vestry/limb"
)

// noughts are all the words that are 0 modulo p.
func noughts() []fe {
	return []fe{{}, words(prime()), words(new(big.Int).Lsh(prime(), 1))}
}

func checkOn(t *testing.T, p edwards.Point) bool {
	t.Helper()
	got := edwards.On(p)
	if want := isCoordinates(p); got != want {
		t.Fatalf("On(%x) = %v", p, got)
	}
	return got
}

func TestOnOfPoints(t *testing.T) {
	l, _ := points(20)
	for _, p := range l {
		if !checkOn(t, p) {
			t.Errorf("On(%x) of a point of the curve", p)
		}
	}
}

func TestOnOfWhatIsNone(t *testing.T) {
	one := limb.Of(1)
	l, _ := points(4)
	for _, p := range l {
		for _, other := range []edwards.Point{
			{X: limb.Add(p.X, one), Y: p.Y, Z: p.Z, T: p.T},
			{X: p.X, Y: limb.Add(p.Y, one), Z: p.Z, T: p.T},
			{X: p.X, Y: p.Y, Z: limb.Add(p.Z, one), T: p.T},
			{X: p.X, Y: p.Y, Z: p.Z, T: limb.Add(p.T, one)},
			{X: p.X, Y: p.Y, Z: p.Z, T: limb.Add(p.T, limb.Neg(one))},
			{X: p.X, Y: limb.Neg(limb.Add(p.Y, one)), Z: p.Z, T: p.T},
		} {
			if checkOn(t, other) {
				t.Errorf("On(%x) of what is beside a point", other)
			}
		}
		for _, z := range noughts() {
			if checkOn(t, edwards.Point{X: p.X, Y: p.Y, Z: z, T: p.T}) {
				t.Errorf("On of Z = %x", z)
			}
		}
	}
}

// TestOnOfNoughts: four noughts meet X Y = Z T and the equation without divisions; they are none, however they are written.
func TestOnOfNoughts(t *testing.T) {
	for _, x := range noughts() {
		for _, z := range noughts() {
			if checkOn(t, edwards.Point{X: x, Y: x, Z: z, T: z}) || checkOn(t, edwards.Point{X: x, Y: z, Z: z, T: x}) {
				t.Errorf("On of four noughts, %x and %x", x, z)
			}
			for _, y := range []fe{limb.Of(1), limb.I()} {
				if checkOn(t, edwards.Point{X: x, Y: y, Z: z, T: limb.Of(1)}) || checkOn(t, edwards.Point{X: y, Y: x, Z: z, T: z}) {
					t.Errorf("On of Z = %x", z)
				}
			}
		}
	}
	if edwards.On(edwards.Point{}) {
		t.Error("On of four noughts")
	}
}

// TestOnOfPairsOffTheCurve: X Y = Z T holds, the equation does not.
func TestOnOfPairsOffTheCurve(t *testing.T) {
	draw := draws(5)
	off := 0
	for range 200 {
		q := pair{value(drawn(draw)), value(drawn(draw))}
		if !checkOn(t, coordinates(q, number(1))) && !checkOn(t, written(coordinates(q, value(drawn(draw))))) {
			off++
		}
		checkOn(t, edwards.Point{X: drawn(draw), Y: drawn(draw), Z: drawn(draw), T: drawn(draw)})
	}
	if off != 200 {
		t.Errorf("%d of 200 drawn pairs are off the curve", off)
	}
	if checkOn(t, coordinates(pair{number(0), number(0)}, number(1))) || checkOn(t, coordinates(pair{number(1), number(1)}, number(7))) {
		t.Error("0, 0 or 1, 1 on the curve")
	}
}

func checkSame(t *testing.T, p, q edwards.Point) bool {
	t.Helper()
	x := times(value(p.X), value(q.Z)).Cmp(times(value(q.X), value(p.Z))) == 0
	y := times(value(p.Y), value(q.Z)).Cmp(times(value(q.Y), value(p.Z))) == 0
	got := edwards.Same(p, q)
	if got != (x && y) {
		t.Fatalf("Same(%x, %x) = %v", p, q, got)
	}
	return got
}

func TestSameOfPoints(t *testing.T) {
	l, q := points(10)
	for i := range l {
		for j := range l {
			want := q[i].x.Cmp(q[j].x) == 0 && q[i].y.Cmp(q[j].y) == 0
			if checkSame(t, l[i], l[j]) != want {
				t.Errorf("Same(%x, %x), want %v", l[i], l[j], want)
			}
		}
	}
}

// TestSameOfAnything: what is no point is taken too, and T counts for nothing.
func TestSameOfAnything(t *testing.T) {
	draw := draws(6)
	for range 100 {
		p := edwards.Point{X: drawn(draw), Y: drawn(draw), Z: drawn(draw), T: drawn(draw)}
		q := edwards.Point{X: drawn(draw), Y: drawn(draw), Z: drawn(draw), T: drawn(draw)}
		if checkSame(t, p, q) || !checkSame(t, p, p) {
			t.Errorf("Same of %x and %x", p, q)
		}
		z := drawn(draw)
		q = edwards.Point{X: limb.Mul(p.X, z), Y: limb.Mul(p.Y, z), Z: limb.Mul(p.Z, z), T: drawn(draw)}
		if !checkSame(t, p, q) || !checkSame(t, written(q), p) {
			t.Errorf("Same of %x and its multiple", p)
		}
		q.X = limb.Add(q.X, limb.Of(1))
		if checkSame(t, p, q) {
			t.Errorf("Same of unlike x: %x", p)
		}
		q.X, q.Y = limb.Mul(p.X, z), limb.Neg(q.Y)
		if checkSame(t, p, q) {
			t.Errorf("Same of unlike y: %x", p)
		}
		for _, nought := range noughts() {
			if !checkSame(t, p, edwards.Point{X: nought, Y: nought, Z: nought}) {
				t.Errorf("Same of %x and noughts: all products are 0", p)
			}
			checkSame(t, p, edwards.Point{X: nought, Y: p.Y, Z: nought})
			checkSame(t, edwards.Point{X: p.X, Y: p.Y, Z: nought}, p)
		}
	}
}

func TestAffine(t *testing.T) {
	l, q := points(10)
	for i, p := range l {
		for _, other := range []fe{p.T, limb.Of(0), drawn(draws(int64(i)))} { // T counts for nothing
			p.T = other
			x, y, ok := edwards.Affine(p)
			if !ok || x != words(q[i].x) || y != words(q[i].y) {
				t.Errorf("Affine(%x) = %x, %x, %v", p, x, y, ok)
			}
		}
	}
}

func TestAffineOfAnything(t *testing.T) {
	draw := draws(7)
	for range 100 {
		p := edwards.Point{X: drawn(draw), Y: drawn(draw), Z: drawn(draw), T: drawn(draw)}
		want, _ := pairOf(p)
		x, y, ok := edwards.Affine(p)
		if !ok || x != words(want.x) || y != words(want.y) {
			t.Errorf("Affine(%x) = %x, %x, %v", p, x, y, ok)
		}
		for _, z := range noughts() {
			p.Z = z
			if x, y, ok := edwards.Affine(p); x != (fe{}) || y != (fe{}) || ok {
				t.Errorf("Affine of Z = %x: %x, %x, %v", z, x, y, ok)
			}
		}
	}
	if _, _, ok := edwards.Affine(edwards.Point{}); ok {
		t.Error("Affine of four noughts")
	}
	if x, y, ok := edwards.Affine(written(edwards.Identity())); x != limb.Of(0) || y != limb.Of(1) || !ok {
		t.Errorf("Affine of the identity = %x, %x, %v", x, y, ok)
	}
}
