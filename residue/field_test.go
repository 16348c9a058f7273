package residue_test

import (
	"math/big"
	"testing"

	"vestry/api"
	"vestry/residue"
)

func checkPair(t *testing.T, a, b api.Scalar) {
	t.Helper()
	x, y := number(a[:]), number(b[:])
	if got, want := residue.Plus(a, b), scalar(new(big.Int).Add(x, y)); got != want {
		t.Errorf("Plus(%x, %x) = %x, want %x", a, b, got, want)
	}
	if got, want := residue.Minus(a, b), scalar(new(big.Int).Sub(x, y)); got != want {
		t.Errorf("Minus(%x, %x) = %x, want %x", a, b, got, want)
	}
	if got, want := residue.Times(a, b), scalar(new(big.Int).Mul(x, y)); got != want {
		t.Errorf("Times(%x, %x) = %x, want %x", a, b, got, want)
	}
}

func TestPlusMinusTimes(t *testing.T) {
	l := edges()
	for _, a := range l {
		for _, b := range l {
			checkPair(t, a, b)
		}
	}
	l = samples(2000)
	for i, a := range l {
		checkPair(t, a, l[(i*7+3)%len(l)])
		checkPair(t, a, a)
	}
}

func TestExamples(t *testing.T) {
	if got := residue.Plus(orderPlus(-1), residue.Of(2)); got != residue.Of(1) {
		t.Errorf("Plus(l - 1, 2) = %x", got)
	}
	if got := residue.Minus(residue.Of(0), residue.Of(1)); got != orderPlus(-1) {
		t.Errorf("Minus(0, 1) = %x", got)
	}
	if got := residue.Times(residue.Of(2), residue.Inverse(residue.Of(2))); got != residue.Of(1) {
		t.Errorf("Times(2, Inverse(2)) = %x", got)
	}
	if got := residue.Inverse(residue.Of(0)); got != residue.Of(0) {
		t.Errorf("Inverse(0) = %x", got)
	}
}

// TestWhatMayNotBe: it stands for its number modulo l, in every call.
func TestWhatMayNotBe(t *testing.T) {
	ff := scalar(new(big.Int).Sub(power(256), big.NewInt(1)))
	for _, c := range []struct{ given, stands api.Scalar }{{orderPlus(0), residue.Of(0)}, {orderPlus(3), residue.Of(3)}, {full(), ff}} {
		for _, b := range []api.Scalar{residue.Of(0), residue.Of(1), residue.Of(5), orderPlus(-1), orderPlus(0), full()} {
			if residue.Plus(c.given, b) != residue.Plus(c.stands, b) || residue.Plus(b, c.given) != residue.Plus(b, c.stands) {
				t.Errorf("Plus of %x and %x", c.given, b)
			}
			if residue.Minus(c.given, b) != residue.Minus(c.stands, b) || residue.Minus(b, c.given) != residue.Minus(b, c.stands) {
				t.Errorf("Minus of %x and %x", c.given, b)
			}
			if residue.Times(c.given, b) != residue.Times(c.stands, b) || residue.Times(b, c.given) != residue.Times(b, c.stands) {
				t.Errorf("Times of %x and %x", c.given, b)
			}
		}
		if residue.Plus(c.given, residue.Of(0)) != c.stands || residue.Inverse(c.given) != residue.Inverse(c.stands) {
			t.Errorf("%x does not stand for %x", c.given, c.stands)
		}
	}
}

func TestInverse(t *testing.T) {
	l := samples(100)
	for _, a := range l {
		got := residue.Inverse(a)
		want := residue.Of(0)
		if x := number(a[:]); scalar(x) != want {
			want = scalar(x.ModInverse(x, order()))
		}
		if got != want {
			t.Errorf("Inverse(%x) = %x, want %x", a, got, want)
		}
	}
	for k := range int64(16) { // all that stand for 0
		if got := residue.Inverse(raw(new(big.Int).Mul(order(), big.NewInt(k)))); got != (api.Scalar{}) {
			t.Errorf("Inverse(%d l) = %x", k, got)
		}
	}
	if residue.Inverse(residue.Of(1)) != residue.Of(1) || residue.Inverse(orderPlus(-1)) != orderPlus(-1) {
		t.Error("1 and l - 1 are not their own inverses")
	}
}

// TestField: what follows, by the calls alone.
func TestField(t *testing.T) {
	l := samples(200)
	for i, a := range l {
		b, c := l[(i*5+1)%len(l)], l[(i*11+2)%len(l)]
		if residue.Plus(a, b) != residue.Plus(b, a) || residue.Times(a, b) != residue.Times(b, a) {
			t.Errorf("%x and %x: the order matters", a, b)
		}
		if residue.Plus(residue.Plus(a, b), c) != residue.Plus(a, residue.Plus(b, c)) || residue.Times(residue.Times(a, b), c) != residue.Times(a, residue.Times(b, c)) {
			t.Errorf("%x, %x and %x: the brackets matter", a, b, c)
		}
		if residue.Times(a, residue.Plus(b, c)) != residue.Plus(residue.Times(a, b), residue.Times(a, c)) {
			t.Errorf("%x does not spread over %x and %x", a, b, c)
		}
		if residue.Plus(residue.Minus(a, b), b) != residue.Plus(a, api.Scalar{}) {
			t.Errorf("Minus(%x, %x) is not undone by Plus", a, b)
		}
		if residue.May(a) != (residue.Plus(a, api.Scalar{}) == a) {
			t.Errorf("%x: its own sum with 0, or not", a)
		}
	}
}
