package edwards_test

import (
	"math/big"
	"testing"

	"vestry/edwards"
	"vestry/limb"
)

func TestD(t *testing.T) {
	if got, want := edwards.D(), words(curveD()); got != want {
		t.Errorf("D() = %x, want %x", got, want)
	}
	if limb.Mul(edwards.D(), limb.Of(121666)) != limb.Neg(limb.Of(121665)) {
		t.Error("D times 121666 is not -121665")
	}
}

func TestIdentityAndBase(t *testing.T) {
	expect(t, "Identity", edwards.Identity(), nothing())
	expect(t, "Base", edwards.Base(), basePair())
	p, ok := edwards.At(limb.Mul(limb.Of(4), limb.Inv(limb.Of(5))), false)
	if !ok || !edwards.Same(p, edwards.Base()) {
		t.Errorf("Base is not the point at 4 / 5: %x, %v", p, ok)
	}
	x, _, _ := edwards.Affine(edwards.Base())
	if limb.Odd(x) {
		t.Error("the base's x is odd")
	}
}

// checkAt holds both points of a y, and that of its words which are not canonical, against the oracle; it tells how many there are.
func checkAt(t *testing.T, y fe) int {
	t.Helper()
	even, odd := atY(value(y))
	found := 0
	for _, given := range []fe{y, words(value(y)), unlike(y)} {
		for _, c := range []struct {
			odd  bool
			want *big.Int
		}{{false, even}, {true, odd}} {
			p, ok := edwards.At(given, c.odd)
			if ok != (c.want != nil) {
				t.Fatalf("At(%x, %v) says %v", given, c.odd, ok)
			}
			if !ok && p != (edwards.Point{}) {
				t.Fatalf("At(%x, %v) = %x beside false", given, c.odd, p)
			}
			if ok {
				found++
				expect(t, "At", p, pair{c.want, value(y)})
			}
		}
	}
	return found / 3
}

func TestAt(t *testing.T) {
	var count [3]int
	draw := draws(1)
	for range 200 {
		count[checkAt(t, drawn(draw))]++
	}
	for n := range uint64(60) {
		count[checkAt(t, limb.Of(n))]++
		count[checkAt(t, limb.Neg(limb.Of(n)))]++
	}
	if count[0] < 50 || count[2] < 50 {
		t.Errorf("none, one, two points at a y: %v", count)
	}
}

func TestAtOfAnXOfNought(t *testing.T) {
	one := limb.Of(1)
	for _, y := range []fe{one, unlike(one), limb.Neg(one), unlike(limb.Neg(one))} {
		p, ok := edwards.At(y, false)
		if !ok {
			t.Fatalf("At(%x, false) has none", y)
		}
		expect(t, "At", p, pair{number(0), value(y)})
		if p, ok := edwards.At(y, true); ok || p != (edwards.Point{}) {
			t.Errorf("At(%x, true) = %x, %v", y, p, ok)
		}
	}
	if p, ok := edwards.At(one, false); !ok || !edwards.Same(p, edwards.Identity()) {
		t.Errorf("At(1, false) = %x, %v", p, ok)
	}
}

func TestAtOfNought(t *testing.T) {
	for _, y := range []fe{limb.Of(0), words(prime()), words(new(big.Int).Lsh(prime(), 1))} {
		for _, odd := range []bool{false, true} {
			p, ok := edwards.At(y, odd)
			x, _, _ := edwards.Affine(p)
			if !ok || limb.Odd(x) != odd || limb.Mul(x, x) != limb.Neg(limb.Of(1)) {
				t.Errorf("At(%x, %v) = %x, %v: its x is i or -i", y, odd, p, ok)
			}
		}
	}
}

func TestAtOfTwo(t *testing.T) {
	two := limb.Of(2)
	_, square := limb.Root(limb.Of(3), limb.Add(limb.Mul(limb.Of(4), edwards.D()), limb.Of(1)))
	for _, odd := range []bool{false, true} {
		p, ok := edwards.At(two, odd)
		if ok != square || ok != edwards.On(p) {
			t.Errorf("At(2, %v) = %x, %v; 3 / (4 d + 1) is a square: %v", odd, p, ok, square)
		}
		if !ok && p != (edwards.Point{}) {
			t.Errorf("At(2, %v) = %x beside false", odd, p)
		}
	}
}
