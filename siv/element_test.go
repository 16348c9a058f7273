package siv_test

import (
	"bytes"
	"slices"
	"testing"

	"vestry/siv"
)

// one is the element that changes nothing in dot: x^128, brought below it.
func one() block { return block{0: 0x01, 15: 0xc2} }

func drawnElements(seed int64, n int) []block {
	var l []block
	for c := range slices.Chunk(drawn(seed, 16*n), 16) {
		l = append(l, block(c))
	}
	return l
}

// bits are all elements with one coefficient.
func bits() []block {
	var l []block
	for i := range 128 {
		var a block
		a[i/8] = 1 << (i % 8)
		l = append(l, a)
	}
	return l
}

// elements are noughts, ff, the edges between bytes and words, and drawn ones.
func elements() []block {
	l := []block{{}, filled(0xff), filled(0x80), filled(0x01), filled(0x55), one()}
	l = append(l, block{0: 0x01}, block{0: 0x80}, block{1: 0x01}, block{7: 0x80}, block{8: 0x01}, block{15: 0x01}, block{15: 0x80})
	l = append(l, block{0: 0xff}, block{15: 0xff}, block{7: 0xff}, block{8: 0xff})
	return append(l, drawnElements(9, 25)...)
}

func TestDot(t *testing.T) {
	for _, a := range elements() {
		for _, b := range elements() {
			if got, want := siv.Dot(a, b), dot(a, b); got != want {
				t.Errorf("Dot of %x and %x is %x, want %x", a, b, got, want)
			}
		}
	}
}

func TestDotOfSingleBits(t *testing.T) {
	all := bits()
	for _, a := range []block{all[0], all[1], all[63], all[64], all[126], all[127]} {
		for _, b := range all {
			want := dot(a, b)
			if got := siv.Dot(a, b); got != want {
				t.Errorf("Dot of %x and %x is %x, want %x", a, b, got, want)
			}
			if got := siv.Dot(b, a); got != want {
				t.Errorf("Dot of %x and %x is %x, want %x", b, a, got, want)
			}
		}
	}
}

// The words of the chapter once more, without x^-128: dot times x^128 is the product.
func TestDotTimesItsPowerIsTheProduct(t *testing.T) {
	for _, a := range elements() {
		for _, b := range elements() {
			back := remainder(product(polynomial(siv.Dot(a, b)), powers(128)))
			if want := remainder(product(polynomial(a), polynomial(b))); back.Cmp(want) != 0 {
				t.Errorf("Dot of %x and %x, times x^128, is %x, want %x", a, b, back, want)
			}
		}
	}
}

// What RFC 8452 works out, and what follows by hand: 1 and 1 make x^-128, x^127 and x^127 make x^126.
func TestKnownDots(t *testing.T) {
	for _, c := range []struct{ a, b, want string }{
		{"66e94bd4ef8a2c3b884cfa59ca342b2e", "ff000000000000000000000000000000", "ebe563401e7e91ea3ad6426b8140c394"},
		{"01000000000000000000000000000000", "01000000000000000000000000000000", "01000000000000000000000000000492"},
		{"00000000000000000000000000000080", "00000000000000000000000000000080", "00000000000000000000000000000040"},
		{"00000000000000000000000000000080", "02000000000000000000000000000000", "01000000000000000000000000000000"},
		{"00000000000000010000000000000000", "00000000000000000001000000000000", "01000000000000000000000000000000"},
		{"00000000000000000000000000000080", "04000000000000000000000000000000", "02000000000000000000000000000000"},
	} {
		got := siv.Dot(block(unhex(t, c.a)), block(unhex(t, c.b)))
		if want := block(unhex(t, c.want)); got != want {
			t.Errorf("Dot of %s and %s is %x, want %s", c.a, c.b, got, c.want)
		}
	}
}

func TestDotWithOneAndNoughts(t *testing.T) {
	for _, a := range append(elements(), bits()...) {
		if siv.Dot(a, one()) != a || siv.Dot(one(), a) != a {
			t.Errorf("Dot of %x and x^128 is %x, the other way %x", a, siv.Dot(a, one()), siv.Dot(one(), a))
		}
		if siv.Dot(a, block{}) != (block{}) || siv.Dot(block{}, a) != (block{}) {
			t.Errorf("Dot of %x and noughts is not noughts", a)
		}
	}
}

func TestDotHangsOnNoOrderAndNoBrackets(t *testing.T) {
	all := elements()
	for _, a := range all {
		for _, b := range all {
			if siv.Dot(a, b) != siv.Dot(b, a) {
				t.Errorf("Dot of %x and %x hangs on their order", a, b)
			}
			for _, c := range all[:20] {
				if siv.Dot(siv.Dot(a, b), c) != siv.Dot(a, siv.Dot(b, c)) {
					t.Errorf("Dot of %x, %x and %x hangs on which two are first", a, b, c)
				}
			}
		}
	}
}

func TestDotSpreadsOverSums(t *testing.T) {
	all := elements()
	for _, a := range all {
		for _, b := range all {
			for _, c := range all[:20] {
				if siv.Dot(a, added(b, c)) != added(siv.Dot(a, b), siv.Dot(a, c)) {
					t.Errorf("Dot of %x does not spread over the sum of %x and %x", a, b, c)
				}
				if siv.Dot(added(b, c), a) != added(siv.Dot(b, a), siv.Dot(c, a)) {
					t.Errorf("Dot of the sum of %x and %x does not spread with %x", b, c, a)
				}
			}
		}
	}
}

func TestDotIsNoughtsOfNoughtsAlone(t *testing.T) {
	all := append(elements(), bits()...)
	for _, a := range all {
		for _, b := range all {
			none := a == block{} || b == block{}
			if got := siv.Dot(a, b); (got == block{}) != none {
				t.Errorf("Dot of %x and %x is %x", a, b, got)
			}
		}
	}
}

// Where dots with one element are alike, the others are.
func TestUnlikeElementsHaveUnlikeDots(t *testing.T) {
	for _, h := range drawnElements(10, 3) {
		from := map[block]block{}
		for _, a := range append(bits(), drawnElements(11, 300)...) {
			d := siv.Dot(a, h)
			if other, ok := from[d]; ok {
				t.Errorf("Dot of %x and of %x with %x is %x", other, a, h, d)
			}
			from[d] = a
		}
	}
}

func TestPolyvalOfNothing(t *testing.T) {
	for _, h := range elements() {
		for _, none := range [][]byte{nil, {}, make([]byte, 0, 40)} {
			if got := siv.Polyval(h, none); got != (block{}) {
				t.Errorf("Polyval of %x and nothing is %x", h, got)
			}
		}
	}
}

func TestPolyvalOfFewBytes(t *testing.T) {
	for _, h := range elements() {
		b := drawn(12, 17)
		first, second := block(b[:16]), block{b[16]}
		if got, want := siv.Polyval(h, b[:1]), dot(block{b[0]}, h); got != want {
			t.Errorf("Polyval of %x and the byte %x is %x, want %x", h, b[0], got, want)
		}
		if got, want := siv.Polyval(h, b[:16]), dot(first, h); got != want {
			t.Errorf("Polyval of %x and the block %x is %x, want %x", h, first, got, want)
		}
		if got, want := siv.Polyval(h, b), dot(added(dot(first, h), second), h); got != want {
			t.Errorf("Polyval of %x and %x is %x, want %x", h, b, got, want)
		}
	}
}

func TestPolyvalOfAllLengths(t *testing.T) {
	for _, h := range []block{filled(0xff), {0: 0x01}, {15: 0x80}, block(drawn(13, 16))} {
		for n := range 100 {
			for _, b := range [][]byte{drawn(int64(n), n), bytes.Repeat([]byte{0xff}, n)} {
				if got, want := siv.Polyval(h, b), polyval(h, filledUp(b)); got != want {
					t.Errorf("Polyval of %x and %x is %x, want %x", h, b, got, want)
				}
			}
		}
	}
}

func TestPolyvalFillsUpByNoughts(t *testing.T) {
	h := block(drawn(14, 16))
	for n := range 50 {
		b := drawn(int64(n), n)
		got := siv.Polyval(h, b)
		if got != siv.Polyval(h, filledUp(b)) {
			t.Errorf("Polyval of %d bytes is another one than when they are filled up", n)
		}
		if more := siv.Polyval(h, append(filledUp(b), make([]byte, 16)...)); more != siv.Dot(got, h) {
			t.Errorf("Polyval of %d bytes filled up, and a block of noughts, is %x", n, more)
		}
	}
}

// What RFC 8452 works out, and the sums within its examples of sealing.
func TestKnownPolyvals(t *testing.T) {
	for _, c := range []struct{ h, b, want string }{
		{"25629347589242761d31f826ba4b757b", "4f4f95668c83dfb6401762bb2d01a262 d1a24ddd2721d006bbe45f20d3c9f362", "f7a3b47b846119fae5b7866cf5e5b77e"},
		{"d9b360279694941ac5dbc6987ada7377", "00000000000000000000000000000000", "00000000000000000000000000000000"},
		{"d9b360279694941ac5dbc6987ada7377", "01000000000000000000000000000000 00000000000000004000000000000000", "eb93b7740962c5e49d2a90a7dc5cec74"},
		{"0533fd71f4119257361a3ff1469dd4e5", "489c8fde2be2cf97e74e932d4ed87d00 c9882e5386fd9f92ec00000000000000 78000000000000004800000000000000", "bf160bc9ded8c63057d2c38aae552fb4"},
	} {
		got := siv.Polyval(block(unhex(t, c.h)), unhex(t, c.b))
		if want := block(unhex(t, c.want)); got != want {
			t.Errorf("Polyval of %s and %s is %x, want %s", c.h, c.b, got, c.want)
		}
	}
}

func TestPolyvalLeavesItsBytesAsTheyWere(t *testing.T) {
	h := block(drawn(15, 16))
	for n := range 50 {
		room := drawn(int64(n), 100)
		before := slices.Clone(room)
		first := siv.Polyval(h, room[:n])
		if !bytes.Equal(room, before) {
			t.Errorf("Polyval of %d bytes has changed them, or what is behind them", n)
		}
		if siv.Polyval(h, room[:n]) != first {
			t.Errorf("Polyval of %d bytes is another one when it is asked again", n)
		}
	}
}
