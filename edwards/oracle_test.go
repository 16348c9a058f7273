package edwards_test

import (
	"math/big"
	"math/rand"
	"testing"

	"vestry/edwards"
	"vestry/limb"
)

// The oracle is math/big: pairs x, y, with the divisions that the chapter writes. It shares nothing with the package but the words.

type fe = limb.Fe

type pair struct{ x, y *big.Int }

func number(n int64) *big.Int { return big.NewInt(n) }

func power(n uint) *big.Int { return new(big.Int).Lsh(number(1), n) }

func prime() *big.Int { return new(big.Int).Sub(power(255), number(19)) }

func mod(n *big.Int) *big.Int { return new(big.Int).Mod(n, prime()) }

func plus(a, b *big.Int) *big.Int { return mod(new(big.Int).Add(a, b)) }

func minus(a, b *big.Int) *big.Int { return mod(new(big.Int).Sub(a, b)) }

func times(a, b *big.Int) *big.Int { return mod(new(big.Int).Mul(a, b)) }

func over(a, b *big.Int) *big.Int { return times(a, new(big.Int).ModInverse(b, prime())) }

func curveD() *big.Int { return over(number(-121665), number(121666)) }

func value(a fe) *big.Int {
	n := new(big.Int)
	for i := range 4 {
		n.Add(n, new(big.Int).Lsh(new(big.Int).SetUint64(a[i]), uint(64*i)))
	}
	return mod(n)
}

// words is a number's four words as it stands, not modulo p.
func words(n *big.Int) fe {
	var a fe
	for i := range 4 {
		a[i] = new(big.Int).And(new(big.Int).Rsh(n, uint(64*i)), new(big.Int).SetUint64(1<<64-1)).Uint64()
	}
	return a
}

// unlike are the same element's words, but not canonical.
func unlike(a fe) fe { return words(new(big.Int).Add(value(a), prime())) }

func meets(q pair) bool {
	xx, yy := times(q.x, q.x), times(q.y, q.y)
	return minus(yy, xx).Cmp(plus(number(1), times(curveD(), times(xx, yy)))) == 0
}

func sum(a, b pair) pair {
	d := times(times(curveD(), times(a.x, b.x)), times(a.y, b.y))
	x := over(plus(times(a.x, b.y), times(b.x, a.y)), plus(number(1), d))
	y := over(plus(times(a.y, b.y), times(a.x, b.x)), minus(number(1), d))
	return pair{x, y}
}

// pairOf is what the coordinates say, if there is a pair.
func pairOf(p edwards.Point) (pair, bool) {
	z := value(p.Z)
	if z.Sign() == 0 {
		return pair{}, false
	}
	return pair{over(value(p.X), z), over(value(p.Y), z)}, true
}

// isCoordinates: by the chapter's words alone.
func isCoordinates(p edwards.Point) bool {
	q, ok := pairOf(p)
	return ok && times(value(p.X), value(p.Y)).Cmp(times(value(p.Z), value(p.T))) == 0 && meets(q)
}

// expect fails the test if p are not coordinates of the pair.
func expect(t *testing.T, what string, p edwards.Point, want pair) {
	t.Helper()
	got, ok := pairOf(p)
	if !ok || !isCoordinates(p) {
		t.Fatalf("%s: %x are no coordinates", what, p)
	}
	if got.x.Cmp(want.x) != 0 || got.y.Cmp(want.y) != 0 {
		t.Fatalf("%s: %x, %x, want %x, %x", what, got.x, got.y, want.x, want.y)
	}
}

// coordinates are those of the pair with this Z.
func coordinates(q pair, z *big.Int) edwards.Point {
	return edwards.Point{X: words(times(q.x, z)), Y: words(times(q.y, z)), Z: words(mod(z)), T: words(times(times(q.x, q.y), z))}
}

// written is a point with all its words not canonical.
func written(p edwards.Point) edwards.Point {
	return edwards.Point{X: unlike(p.X), Y: unlike(p.Y), Z: unlike(p.Z), T: unlike(p.T)}
}

// atY solves the equation for x: the one that is odd and the one that is not, as far as there are.
func atY(y *big.Int) (even, odd *big.Int) {
	yy := times(y, y)
	x := new(big.Int).ModSqrt(over(minus(yy, number(1)), plus(times(curveD(), yy), number(1))), prime())
	if x == nil {
		return nil, nil
	}
	if x.Sign() == 0 {
		return x, nil
	}
	if x.Bit(0) == 1 {
		return minus(number(0), x), x
	}
	return x, minus(number(0), x)
}

func draws(seed int64) *rand.Rand { return rand.New(rand.NewSource(seed)) }

func drawn(draw *rand.Rand) fe {
	return fe{draw.Uint64(), draw.Uint64(), draw.Uint64(), draw.Uint64()}
}

func basePair() pair {
	y := over(number(4), number(5))
	x, _ := atY(y)
	return pair{x, y}
}

// order is l, the number of times after which the base is the identity.
func order() *big.Int {
	n, _ := new(big.Int).SetString("27742317777372353535851937790883648493", 10)
	return n.Add(n, power(252))
}

func nothing() pair { return pair{number(0), number(1)} }

func manyTimes(k *big.Int, q pair) pair {
	r := nothing()
	for i := k.BitLen() - 1; i >= 0; i-- {
		r = sum(r, r)
		if k.Bit(i) == 1 {
			r = sum(r, q)
		}
	}
	return r
}

// small are the eight points that are the identity when they are taken eight times; l times is not enough for seven of them.
func small() []pair {
	for y := int64(2); ; y++ {
		x, _ := atY(number(y))
		if x == nil {
			continue
		}
		q := manyTimes(order(), pair{x, number(y)})
		if manyTimes(number(4), q).y.Cmp(number(1)) == 0 {
			continue
		}
		var l []pair
		for n := range int64(8) {
			l = append(l, manyTimes(number(n), q))
		}
		return l
	}
}

// pairs are the eight, the base with its neighbours, and others of the curve.
func pairs(others int) []pair {
	l := small()
	b := basePair()
	l = append(l, b, manyTimes(number(2), b), manyTimes(number(3), b), manyTimes(minus(order(), number(1)), b), sum(b, l[1]), sum(b, l[4]))
	draw := draws(3)
	for len(l) < 14+others {
		y := value(drawn(draw))
		if even, odd := atY(y); even != nil && odd != nil {
			l = append(l, pair{even, y}, pair{odd, y})
		}
	}
	return l
}

// points are coordinates of the pairs: with Z = 1, with another Z, and with words that are not canonical.
func points(others int) (p []edwards.Point, q []pair) {
	draw := draws(4)
	for _, one := range pairs(others) {
		z := value(drawn(draw))
		p = append(p, coordinates(one, number(1)), coordinates(one, z), written(coordinates(one, z)))
		q = append(q, one, one, one)
	}
	return p, q
}
