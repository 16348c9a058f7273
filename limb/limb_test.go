package limb_test

import (
	"math/big"
	"math/rand"
	"testing"

	"vestry/limb"
)

type fe = limb.Fe

// The oracle is math/big: it shares nothing with the package but the words.

func power(n uint) *big.Int { return new(big.Int).Lsh(big.NewInt(1), n) }

func prime() *big.Int { return new(big.Int).Sub(power(255), big.NewInt(19)) }

func number(a fe) *big.Int {
	n := new(big.Int)
	for i := range 4 {
		n.Add(n, new(big.Int).Lsh(new(big.Int).SetUint64(a[i]), uint(64*i)))
	}
	return n
}

// words is a number's four words as it stands, not modulo p.
func words(n *big.Int) fe {
	var a fe
	for i := range 4 {
		a[i] = new(big.Int).And(new(big.Int).Rsh(n, uint(64*i)), new(big.Int).SetUint64(1<<64-1)).Uint64()
	}
	return a
}

// canonical is the one answer that is allowed for a number.
func canonical(n *big.Int) fe { return words(new(big.Int).Mod(n, prime())) }

func primePlus(n int64) fe { return words(new(big.Int).Add(prime(), big.NewInt(n))) }

// edges are the words at which carries and reductions turn; more than half of them are not canonical.
func edges() []fe {
	const full = 1<<64 - 1
	l := []fe{{}, {1}, {2}, {3}, {18}, {19}, {20}, {37}, {38}, {full}, {0, 1}, {0, full}, {0, 0, full}, {full, full, full}}
	l = append(l, fe{0, 0, 0, full}, fe{0, full, full, full}, fe{full, 0, full, full}, fe{full, full, 0, full}, fe{0, 0, 0, 1 << 63}, fe{0, 0, 0, 1<<63 - 1})
	for _, base := range []*big.Int{prime(), new(big.Int).Lsh(prime(), 1), power(255), power(256)} {
		for _, d := range []int64{-39, -38, -37, -20, -19, -18, -3, -2, -1, 0, 1, 2, 3, 18, 19, 36, 37} {
			if n := new(big.Int).Add(base, big.NewInt(d)); n.BitLen() <= 256 {
				l = append(l, words(n))
			}
		}
	}
	half := new(big.Int).Rsh(prime(), 1)
	return append(l, words(half), words(half.Add(half, big.NewInt(1))), limb.I())
}

// samples are the edges and some others: all four words drawn, so that half of these are not canonical either.
func samples(others int) []fe {
	l := edges()
	draw := rand.New(rand.NewSource(1))
	for range others {
		l = append(l, fe{draw.Uint64(), draw.Uint64(), draw.Uint64(), draw.Uint64()})
	}
	return l
}

func TestOf(t *testing.T) {
	for _, n := range []uint64{0, 1, 19, 1 << 63, 1<<64 - 1} {
		if got := limb.Of(n); got != (fe{n, 0, 0, 0}) {
			t.Errorf("Of(%d) = %x", n, got)
		}
	}
}

func TestCanon(t *testing.T) {
	for _, a := range samples(1000) {
		if got, want := limb.Canon(a), canonical(number(a)); got != want {
			t.Errorf("Canon(%x) = %x, want %x", a, got, want)
		}
	}
	for n := range int64(19) {
		if got := limb.Canon(primePlus(n)); got != limb.Of(uint64(n)) {
			t.Errorf("Canon(p + %d) = %x", n, got)
		}
	}
	if got := limb.Canon(primePlus(-1)); got != primePlus(-1) {
		t.Errorf("Canon(p - 1) = %x", got)
	}
}

func TestSame(t *testing.T) {
	l := samples(30)
	for _, a := range l {
		for _, b := range l {
			if got, want := limb.Same(a, b), canonical(number(a)) == canonical(number(b)); got != want {
				t.Errorf("Same(%x, %x) = %v", a, b, got)
			}
		}
	}
	if !limb.Same(primePlus(3), limb.Of(3)) || !limb.Same(primePlus(0), words(new(big.Int).Lsh(prime(), 1))) || limb.Same(primePlus(3), limb.Of(4)) {
		t.Error("Same of what is not canonical")
	}
}

func TestOddAndAbs(t *testing.T) {
	for _, a := range samples(1000) {
		c := canonical(number(a))
		odd := c[0]%2 == 1
		if got := limb.Odd(a); got != odd {
			t.Errorf("Odd(%x) = %v", a, got)
		}
		want := c
		if odd {
			want = canonical(new(big.Int).Neg(number(a)))
		}
		if got := limb.Abs(a); got != want {
			t.Errorf("Abs(%x) = %x, want %x", a, got, want)
		}
		if limb.Odd(limb.Abs(a)) || limb.Abs(a) != limb.Abs(limb.Neg(a)) {
			t.Errorf("the size of %x is odd, or not that of its negative", a)
		}
	}
	less := limb.Neg(limb.Of(1))
	if limb.Odd(less) || limb.Abs(less) != less || limb.Abs(limb.Of(1)) != less {
		t.Error("-1 is not odd: it is its own size, and that of 1")
	}
	if limb.Odd(primePlus(0)) || !limb.Odd(primePlus(1)) || limb.Abs(primePlus(0)) != limb.Of(0) {
		t.Error("odd is said of the canonical number: p is 0, p + 1 is 1")
	}
}

func TestSumsAndProducts(t *testing.T) {
	l := samples(60)
	for _, a := range l {
		for _, b := range l {
			x, y := number(a), number(b)
			if got, want := limb.Add(a, b), canonical(new(big.Int).Add(x, y)); got != want {
				t.Fatalf("Add(%x, %x) = %x, want %x", a, b, got, want)
			}
			if got, want := limb.Sub(a, b), canonical(new(big.Int).Sub(x, y)); got != want {
				t.Fatalf("Sub(%x, %x) = %x, want %x", a, b, got, want)
			}
			if got, want := limb.Mul(a, b), canonical(new(big.Int).Mul(x, y)); got != want {
				t.Fatalf("Mul(%x, %x) = %x, want %x", a, b, got, want)
			}
		}
	}
}

func TestManyProducts(t *testing.T) {
	draw := rand.New(rand.NewSource(2))
	for range 20000 {
		a := fe{draw.Uint64(), draw.Uint64(), draw.Uint64(), draw.Uint64()}
		b := fe{draw.Uint64(), draw.Uint64(), draw.Uint64(), draw.Uint64()}
		if got, want := limb.Mul(a, b), canonical(new(big.Int).Mul(number(a), number(b))); got != want {
			t.Fatalf("Mul(%x, %x) = %x, want %x", a, b, got, want)
		}
	}
}

func TestNegAndInv(t *testing.T) {
	for _, a := range samples(100) {
		if got, want := limb.Neg(a), canonical(new(big.Int).Neg(number(a))); got != want {
			t.Errorf("Neg(%x) = %x, want %x", a, got, want)
		}
		want := fe{}
		if c := number(canonical(number(a))); c.Sign() != 0 {
			want = words(c.ModInverse(c, prime()))
		}
		if got := limb.Inv(a); got != want {
			t.Errorf("Inv(%x) = %x, want %x", a, got, want)
		}
	}
	if limb.Inv(limb.Of(0)) != limb.Of(0) || limb.Inv(primePlus(0)) != limb.Of(0) || limb.Neg(primePlus(0)) != limb.Of(0) {
		t.Error("0, and p as well, is its own inverse and negative")
	}
	if limb.Mul(limb.Of(2), limb.Inv(limb.Of(2))) != limb.Of(1) {
		t.Error("Mul(2, Inv(2)) is not 1")
	}
}

func TestPow(t *testing.T) {
	bases := append(samples(5), limb.Of(2), limb.Of(5))
	for _, a := range bases {
		for _, e := range samples(5) {
			// Not big's Exp of the reduced exponent: the number of e as it stands.
			if got, want := limb.Pow(a, e), words(new(big.Int).Exp(number(a), number(e), prime())); got != want {
				t.Fatalf("Pow(%x, %x) = %x, want %x", a, e, got, want)
			}
		}
	}
}

func TestPowTakesTheExponentAsItStands(t *testing.T) {
	for _, c := range []struct {
		a, e, want fe
	}{
		{limb.Of(0), limb.Of(0), limb.Of(1)},
		{primePlus(0), limb.Of(0), limb.Of(1)},
		{limb.Of(7), limb.Of(0), limb.Of(1)},
		{limb.Of(7), limb.Of(1), limb.Of(7)},
		{limb.Of(3), limb.Of(5), limb.Of(243)},
		{limb.Of(0), primePlus(0), limb.Of(0)},
		{limb.Of(2), primePlus(-1), limb.Of(1)},
		{limb.Of(2), primePlus(0), limb.Of(2)},
		{limb.Of(2), primePlus(3), limb.Of(16)},
		{primePlus(2), primePlus(3), limb.Of(16)},
	} {
		if got := limb.Pow(c.a, c.e); got != c.want {
			t.Errorf("Pow(%x, %x) = %x, want %x", c.a, c.e, got, c.want)
		}
	}
}

func TestI(t *testing.T) {
	quarter := new(big.Int).Rsh(prime(), 2) // p - 1 is a multiple of 4: what p has more is lost
	if got, want := limb.I(), words(new(big.Int).Exp(big.NewInt(2), quarter, prime())); got != want {
		t.Errorf("I() = %x, want %x", got, want)
	}
	if limb.I() != limb.Pow(limb.Of(2), words(quarter)) || limb.Mul(limb.I(), limb.I()) != primePlus(-1) {
		t.Error("I is not 2^((p - 1) / 4), or its square is not p - 1")
	}
}

func TestField(t *testing.T) {
	l := samples(10)
	one := limb.Of(1)
	for i, a := range l {
		b, c := l[(i+7)%len(l)], l[(i+23)%len(l)]
		if limb.Add(a, b) != limb.Add(b, a) || limb.Mul(a, b) != limb.Mul(b, a) {
			t.Errorf("order counts for %x, %x", a, b)
		}
		if limb.Add(limb.Add(a, b), c) != limb.Add(a, limb.Add(b, c)) || limb.Mul(limb.Mul(a, b), c) != limb.Mul(a, limb.Mul(b, c)) {
			t.Errorf("brackets count for %x, %x, %x", a, b, c)
		}
		if limb.Mul(a, limb.Add(b, c)) != limb.Add(limb.Mul(a, b), limb.Mul(a, c)) {
			t.Errorf("%x does not spread over %x, %x", a, b, c)
		}
		if limb.Add(a, limb.Neg(a)) != (fe{}) || limb.Sub(a, a) != (fe{}) || limb.Mul(a, one) != limb.Canon(a) {
			t.Errorf("0 or 1 fails for %x", a)
		}
		if !limb.Same(a, fe{}) && limb.Mul(a, limb.Inv(a)) != one {
			t.Errorf("%x has no inverse", a)
		}
	}
}
