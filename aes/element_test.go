package aes_test

import (
	"testing"

	"vestry/aes"
)

// product is that of both polynomials, x^14 at most, and then less the modulus wherever more than x^7 is left.
func product(a, b byte) byte {
	var p uint
	for i := range 8 {
		if b>>i&1 == 1 {
			p ^= uint(a) << i
		}
	}
	for i := 14; i >= 8; i-- {
		if p>>i&1 == 1 {
			p ^= 0x11b << (i - 8)
		}
	}
	return byte(p)
}

// inverse looks for the one element whose product is 1.
func inverse(t *testing.T, a byte) byte {
	t.Helper()
	if a == 0 {
		return 0
	}
	var found []byte
	for b := range 256 {
		if product(a, byte(b)) == 1 {
			found = append(found, byte(b))
		}
	}
	if len(found) != 1 {
		t.Fatalf("%02x has the inverses %x", a, found)
	}
	return found[0]
}

// substitute adds, for each bit, the five of the inverse's bits that the chapter names, and that of 63.
func substitute(t *testing.T, a byte) byte {
	t.Helper()
	b := inverse(t, a)
	var out byte
	for i := range 8 {
		bit := 0x63 >> i
		for _, from := range []int{i, i + 4, i + 5, i + 6, i + 7} {
			bit += int(b >> (from % 8))
		}
		out |= byte(bit&1) << i
	}
	return out
}

// substitutes are those of all elements.
func substitutes(t *testing.T) [256]byte {
	t.Helper()
	var out [256]byte
	for a := range out {
		out[a] = substitute(t, byte(a))
	}
	return out
}

// products are what Mul answers to all pairs.
func products() *[256][256]byte {
	var p [256][256]byte
	for a := range p {
		for b := range p {
			p[a][b] = aes.Mul(byte(a), byte(b))
		}
	}
	return &p
}

func TestMulOfAllPairs(t *testing.T) {
	for a, row := range products() {
		for b, got := range row {
			if want := product(byte(a), byte(b)); got != want {
				t.Errorf("Mul of %02x and %02x is %02x, want %02x", a, b, got, want)
			}
		}
	}
}

func TestMulOfKnownPairs(t *testing.T) {
	for _, c := range []struct{ a, b, want byte }{
		{0x57, 0x83, 0xc1}, {0x57, 0x13, 0xfe}, {0x57, 0x02, 0xae}, {0x57, 0x04, 0x47}, {0x57, 0x08, 0x8e}, {0x57, 0x10, 0x07},
		{0x53, 0xca, 0x01}, {0x80, 0x02, 0x1b}, {0x80, 0x80, 0x9a}, {0xff, 0xff, 0x13}, {0xff, 0x02, 0xe5}, {0x7f, 0x02, 0xfe},
		{0, 0, 0}, {0, 0xff, 0}, {1, 1, 1}, {1, 0xff, 0xff}, {0xff, 0, 0}, {0xff, 1, 0xff},
	} {
		if got := aes.Mul(c.a, c.b); got != c.want {
			t.Errorf("Mul of %02x and %02x is %02x, want %02x", c.a, c.b, got, c.want)
		}
	}
}

func TestMulByNoughtAndOne(t *testing.T) {
	for a := range 256 {
		x := byte(a)
		if aes.Mul(x, 0) != 0 || aes.Mul(0, x) != 0 {
			t.Errorf("Mul of %02x and 0 is not 0", x)
		}
		if aes.Mul(x, 1) != x || aes.Mul(1, x) != x {
			t.Errorf("Mul of %02x and 1 is not the element", x)
		}
	}
}

func TestProductsHangOnNoOrder(t *testing.T) {
	p := products()
	for a := range p {
		for b := range p {
			if p[a][b] != p[b][a] {
				t.Errorf("Mul of %02x and %02x is %02x, the other way %02x", a, b, p[a][b], p[b][a])
			}
			for c := range p {
				if p[p[a][b]][c] != p[a][p[b][c]] {
					t.Fatalf("Mul of %02x, %02x and %02x hangs on which two are first", a, b, c)
				}
			}
		}
	}
}

func TestProductsSpreadOverSums(t *testing.T) {
	p := products()
	for a := range p {
		for b := range p {
			for c := range p {
				if p[a][b^c] != p[a][b]^p[a][c] || p[b^c][a] != p[b][a]^p[c][a] {
					t.Fatalf("Mul of %02x does not spread over the sum of %02x and %02x", a, b, c)
				}
			}
		}
	}
}

func TestSubOfAllElements(t *testing.T) {
	for a, want := range substitutes(t) {
		if got := aes.Sub(byte(a)); got != want {
			t.Errorf("Sub of %02x is %02x, want %02x", a, got, want)
		}
	}
}

func TestSubOfKnownElements(t *testing.T) {
	for _, c := range []struct{ a, want byte }{
		{0, 0x63}, {1, 0x7c}, {2, 0x77}, {0x52, 0x00}, {0x53, 0xed}, {0x7f, 0xd2}, {0x80, 0xcd}, {0xfe, 0xbb}, {0xff, 0x16},
	} {
		if got := aes.Sub(c.a); got != c.want {
			t.Errorf("Sub of %02x is %02x, want %02x", c.a, got, c.want)
		}
	}
}

func TestUnlikeElementsHaveUnlikeSubstitutes(t *testing.T) {
	from := map[byte]int{}
	for a := range 256 {
		s := aes.Sub(byte(a))
		if other, ok := from[s]; ok {
			t.Errorf("Sub of %02x and of %02x is %02x", other, a, s)
		}
		if s == byte(a) || s == ^byte(a) {
			t.Errorf("Sub of %02x is %02x: no element is its own substitute, or the other bits of it", a, s)
		}
		from[s] = a
	}
	if len(from) != 256 {
		t.Errorf("256 elements have %d substitutes", len(from))
	}
}
