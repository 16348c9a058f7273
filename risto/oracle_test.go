package risto_test

import (
	"encoding/hex"
	"math/big"
	"math/rand"
	"slices"
	"testing"

	"vestry/edwards"
	"vestry/limb"
)

// The oracle is math/big: the chapter's words over pairs x, y, with divisions and its own roots. It shares nothing with the package but the words.

type fe = limb.Fe

type pair struct{ x, y *big.Int }

func number(n int64) *big.Int { return big.NewInt(n) }

func power(n uint) *big.Int { return new(big.Int).Lsh(number(1), n) }

func prime() *big.Int { return new(big.Int).Sub(power(255), number(19)) }

func mod(n *big.Int) *big.Int { return new(big.Int).Mod(n, prime()) }

func plus(a, b *big.Int) *big.Int { return mod(new(big.Int).Add(a, b)) }

func minus(a, b *big.Int) *big.Int { return mod(new(big.Int).Sub(a, b)) }

func less(a *big.Int) *big.Int { return minus(number(0), a) }

func times(l ...*big.Int) *big.Int {
	r := number(1)
	for _, a := range l {
		r = mod(r.Mul(r, a))
	}
	return r
}

func over(a, b *big.Int) *big.Int { return times(a, new(big.Int).ModInverse(b, prime())) }

func same(a, b *big.Int) bool { return mod(a).Cmp(mod(b)) == 0 }

func odd(a *big.Int) bool { return mod(a).Bit(0) == 1 }

func size(a *big.Int) *big.Int {
	if odd(a) {
		return less(a)
	}
	return mod(a)
}

func curveD() *big.Int { return over(number(-121665), number(121666)) }

func numberI() *big.Int {
	return new(big.Int).Exp(number(2), new(big.Int).Rsh(new(big.Int).Sub(prime(), number(1)), 2), prime())
}

// root is layer 1's Root.
func root(u, v *big.Int) (*big.Int, bool) {
	if mod(u).Sign() == 0 || mod(v).Sign() == 0 {
		return number(0), mod(u).Sign() == 0
	}
	if r := new(big.Int).ModSqrt(over(u, v), prime()); r != nil {
		return size(r), true
	}
	return size(new(big.Int).ModSqrt(over(times(numberI(), u), v), prime())), false
}

func value(a fe) *big.Int {
	n := new(big.Int)
	for i := range 4 {
		n.Add(n, new(big.Int).Lsh(new(big.Int).SetUint64(a[i]), uint(64*i)))
	}
	return mod(n)
}

// words is a number's four words as it stands, not modulo p.
func words(n *big.Int) fe {
	var a fe
	for i := range 4 {
		a[i] = new(big.Int).And(new(big.Int).Rsh(n, uint(64*i)), new(big.Int).SetUint64(1<<64-1)).Uint64()
	}
	return a
}

// written is a point with all its words not canonical.
func written(p edwards.Point) edwards.Point {
	unlike := func(a fe) fe { return words(new(big.Int).Add(value(a), prime())) }
	return edwards.Point{X: unlike(p.X), Y: unlike(p.Y), Z: unlike(p.Z), T: unlike(p.T)}
}

// inBytes is a number below 2^256 in 32 bytes, the lowest first.
func inBytes(n *big.Int) [32]byte {
	var b [32]byte
	n.FillBytes(b[:])
	slices.Reverse(b[:])
	return b
}

func ofBytes(b [32]byte) *big.Int {
	slices.Reverse(b[:])
	return new(big.Int).SetBytes(b[:])
}

func bytesOf(text string) [32]byte {
	var b [32]byte
	if n, err := hex.Decode(b[:], []byte(text)); err != nil || n != 32 {
		panic(text)
	}
	return b
}

func sum(a, b pair) pair {
	d := times(curveD(), a.x, b.x, a.y, b.y)
	x := over(plus(times(a.x, b.y), times(b.x, a.y)), plus(number(1), d))
	y := over(plus(times(a.y, b.y), times(a.x, b.x)), minus(number(1), d))
	return pair{x, y}
}

// coordinates are those of the pair with this Z.
func coordinates(q pair, z *big.Int) edwards.Point {
	return edwards.Point{X: words(times(q.x, z)), Y: words(times(q.y, z)), Z: words(mod(z)), T: words(times(q.x, q.y, z))}
}

// expect fails the test if p are not coordinates of the pair.
func expect(t *testing.T, what string, p edwards.Point, want pair) {
	t.Helper()
	x, y, ok := edwards.Affine(p)
	if !ok || !edwards.On(p) {
		t.Fatalf("%s: %x are no coordinates", what, p)
	}
	if x != words(want.x) || y != words(want.y) {
		t.Fatalf("%s: %x, %x, want %x, %x", what, x, y, want.x, want.y)
	}
}

func draws(seed int64) *rand.Rand { return rand.New(rand.NewSource(seed)) }

func drawn(draw *rand.Rand) fe {
	return fe{draw.Uint64(), draw.Uint64(), draw.Uint64(), draw.Uint64()}
}

func drawnBytes(draw *rand.Rand) [32]byte {
	var b [32]byte
	draw.Read(b[:])
	return b
}

// drawnPair is some point of the curve, twice another or not.
func drawnPair(draw *rand.Rand) pair {
	for {
		y := value(drawn(draw))
		yy := times(y, y)
		if x, ok := root(minus(yy, number(1)), plus(times(curveD(), yy), number(1))); ok {
			return pair{x, y}
		}
	}
}

func identity() pair { return pair{number(0), number(1)} }

func base() pair {
	y := over(number(4), number(5))
	yy := times(y, y)
	x, _ := root(minus(yy, number(1)), plus(times(curveD(), yy), number(1)))
	return pair{x, y}
}

// four are those that count as one with the identity.
func four() []pair {
	i := numberI()
	return []pair{identity(), {number(0), number(-1)}, {i, number(0)}, {less(i), number(0)}}
}

// asOne are the four points that count as one with q.
func asOne(q pair) []pair {
	var l []pair
	for _, f := range four() {
		l = append(l, sum(q, f))
	}
	return l
}

// elements are the first multiples of the base, and twice drawn points.
func elements(multiples, others int) []pair {
	l := []pair{identity()}
	for n := range multiples {
		l = append(l, sum(l[n], base()))
	}
	draw := draws(1)
	for range others {
		q := drawnPair(draw)
		l = append(l, sum(q, q))
	}
	return l
}
