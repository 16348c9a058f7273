package edwards_test

import (
	"math/big"
	"slices"
	"testing"

	"vestry/api"
	"vestry/edwards"
	"vestry/limb"
)

// scalar is a number below 2^256 in 32 bytes, the lowest first.
func scalar(n *big.Int) api.Scalar {
	var k api.Scalar
	n.FillBytes(k[:])
	slices.Reverse(k[:])
	return k
}

func full() *big.Int { return new(big.Int).Sub(power(256), number(1)) }

func drawnNumber(seed int64) *big.Int {
	return new(big.Int).Rand(draws(seed), power(256))
}

func TestNeg(t *testing.T) {
	l, q := points(20)
	for i, p := range l {
		expect(t, "Neg", edwards.Neg(p), pair{minus(number(0), q[i].x), q[i].y})
		if !edwards.Same(edwards.Neg(edwards.Neg(p)), p) {
			t.Errorf("Neg twice of %x", p)
		}
		if !edwards.Same(edwards.Add(p, edwards.Neg(p)), edwards.Identity()) || !edwards.Same(edwards.Add(edwards.Neg(p), p), edwards.Identity()) {
			t.Errorf("%x and its negative", p)
		}
	}
}

func TestAdd(t *testing.T) {
	l, q := points(10)
	for i := range l {
		for j := range l {
			expect(t, "Add", edwards.Add(l[i], l[j]), sum(q[i], q[j]))
		}
	}
}

// TestAddOfItself: with the very same words, with another Z, and with words that are not canonical.
func TestAddOfItself(t *testing.T) {
	l, q := points(20)
	draw := draws(8)
	for i, p := range l {
		want := sum(q[i], q[i])
		expect(t, "Add", edwards.Add(p, p), want)
		expect(t, "Add", edwards.Add(p, written(p)), want)
		expect(t, "Add", edwards.Add(coordinates(q[i], value(drawn(draw))), p), want)
	}
}

func TestAddOfTheIdentity(t *testing.T) {
	l, q := points(10)
	draw := draws(9)
	for i, p := range l {
		none := coordinates(nothing(), value(drawn(draw)))
		expect(t, "Add", edwards.Add(p, none), q[i])
		expect(t, "Add", edwards.Add(written(none), p), q[i])
		expect(t, "Add", edwards.Add(edwards.Identity(), p), q[i])
	}
	expect(t, "Add", edwards.Add(edwards.Identity(), edwards.Identity()), nothing())
}

func TestGroup(t *testing.T) {
	l, _ := points(10)
	for i, a := range l {
		b, c := l[(i+7)%len(l)], l[(i+23)%len(l)]
		if !edwards.Same(edwards.Add(a, b), edwards.Add(b, a)) {
			t.Errorf("order counts for %x, %x", a, b)
		}
		if !edwards.Same(edwards.Add(edwards.Add(a, b), c), edwards.Add(a, edwards.Add(b, c))) {
			t.Errorf("brackets count for %x, %x, %x", a, b, c)
		}
	}
}

func TestTimes(t *testing.T) {
	l := order()
	counts := []*big.Int{number(0), number(1), number(2), number(3), number(7), number(8), number(255), number(256), minus(l, number(1)), l, plus(l, number(1)),
		new(big.Int).Lsh(l, 1), new(big.Int).Lsh(l, 3), power(252), power(254), power(255), new(big.Int).Sub(power(255), number(1)), prime(), full(), new(big.Int).Sub(full(), number(1)), drawnNumber(1), drawnNumber(2)}
	p, q := points(2)
	for i := range p {
		for j, k := range counts {
			if i < 24 && i%3 != j%3 { // the eight small points: one way to write them is enough for each number
				continue
			}
			expect(t, "Times of "+k.String(), edwards.Times(scalar(k), p[i]), manyTimes(k, q[i]))
		}
	}
}

func TestTimesOfEachBit(t *testing.T) {
	draw := draws(10)
	q := sum(basePair(), small()[1]) // its order is 8 l: no bit of 256 is lost in a remainder modulo l
	p := coordinates(q, value(drawn(draw)))
	want := q
	for i := range uint(256) {
		expect(t, "Times of a power of two", edwards.Times(scalar(power(i)), p), want)
		want = sum(want, want)
	}
}

func TestTimesSpreads(t *testing.T) {
	a, b := edwards.Base(), coordinates(sum(manyTimes(number(5), basePair()), small()[3]), number(9))
	for seed := range int64(20) {
		x, y := new(big.Int).Rsh(drawnNumber(seed), 1), new(big.Int).Rsh(drawnNumber(seed+100), 1)
		k := scalar(x)
		if !edwards.Same(edwards.Times(k, edwards.Add(a, b)), edwards.Add(edwards.Times(k, a), edwards.Times(k, b))) {
			t.Errorf("%x does not spread over a sum of points", x)
		}
		both := edwards.Add(edwards.Times(k, b), edwards.Times(scalar(y), b))
		if !edwards.Same(edwards.Times(scalar(new(big.Int).Add(x, y)), b), both) {
			t.Errorf("%x and %x do not spread", x, y)
		}
	}
}

func TestExamples(t *testing.T) {
	b := edwards.Base()
	if !edwards.Same(edwards.Add(b, edwards.Neg(b)), edwards.Identity()) {
		t.Error("Add(Base, Neg(Base)) is not the identity")
	}
	if !edwards.Same(edwards.Times(scalar(order()), b), edwards.Identity()) {
		t.Error("Times of l and Base is not the identity")
	}
	if !edwards.Same(edwards.Times(api.Scalar{}, b), edwards.Identity()) {
		t.Error("Times of 0 and Base is not the identity")
	}
	if !edwards.Same(edwards.Times(api.Scalar{1}, b), b) || edwards.Same(edwards.Times(api.Scalar{2}, b), b) {
		t.Error("Times of 1, or of 2")
	}
	ff := edwards.Times(scalar(full()), b)
	if rest := new(big.Int).Mod(full(), order()); !edwards.Same(ff, edwards.Times(scalar(rest), b)) {
		t.Error("Times of 32 bytes ff and Base is not that of the rest modulo l")
	}
}

// TestOfWhatIsNone: nothing is promised of the answers but that there are some.
func TestOfWhatIsNone(t *testing.T) {
	draw := draws(11)
	none := []edwards.Point{{}, {X: limb.Of(1)}, {Y: limb.Of(1)}, {Z: limb.Of(1)}, {T: limb.Of(1)}, {X: drawn(draw), Y: drawn(draw), Z: drawn(draw), T: drawn(draw)}}
	for _, p := range none {
		for _, q := range none {
			edwards.Add(p, q)
			edwards.Same(p, q)
		}
		edwards.Neg(p)
		edwards.On(p)
		edwards.Affine(p)
		edwards.Times(scalar(full()), p)
	}
}
