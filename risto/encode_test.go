package risto_test

import (
	"math/big"
	"testing"

	"vestry/edwards"
	"vestry/limb"
	"vestry/risto"
)

// encoded is the bytes of a pair, whose Z is 1 and whose T is x y; and which of the two turns were taken.
func encoded(q pair) (b [32]byte, changed, turned bool) {
	one := number(1)
	product := times(q.x, q.y)
	u1 := times(plus(one, q.y), minus(one, q.y))
	r, _ := root(one, times(u1, product, product))
	first, second := times(r, u1), times(r, product)
	c := times(first, second, product)
	x, y, e := q.x, q.y, second
	if changed = odd(times(product, c)); changed {
		n, _ := root(one, minus(number(-1), curveD()))
		x, y, e = times(numberI(), q.y), times(numberI(), q.x), times(first, n)
	}
	if turned = odd(times(x, c)); turned {
		y = less(y)
	}
	return inBytes(size(times(e, minus(one, y)))), changed, turned
}

// checkEncode holds Encode of many coordinates of the pair against the bytes.
func checkEncode(t *testing.T, q pair, want [32]byte) {
	t.Helper()
	draw := draws(2)
	for _, z := range []*big.Int{number(1), number(-1), number(2), numberI(), value(drawn(draw))} {
		p := coordinates(q, z)
		for _, given := range []edwards.Point{p, written(p)} {
			if got := risto.Encode(given); got != want {
				t.Fatalf("Encode(%x) = %x, want %x", given, got, want)
			}
		}
	}
}

// multiples are the base's, from none on, as RFC 9496 lists them.
func multiples() []string {
	return []string{
		"0000000000000000000000000000000000000000000000000000000000000000",
		"e2f2ae0a6abc4e71a884a961c500515f58e30b6aa582dd8db6a65945e08d2d76",
		"6a493210f7499cd17fecb510ae0cea23a110e8d5b901f8acadd3095c73a3b919",
		"94741f5d5d52755ece4f23f044ee27d5d1ea1e2bd196b462166b16152a9d0259",
		"da80862773358b466ffadfe0b3293ab3d9fd53c5ea6c955358f568322daf6a57",
		"e882b131016b52c1d3337080187cf768423efccbb517bb495ab812c4160ff44e",
		"f64746d3c92b13050ed8d80236a7f0007c3b3f962f5ba793d19a601ebb1df403",
		"44f53520926ec81fbd5a387845beb7df85a96a24ece18738bdcfa6a7822a176d",
		"903293d8f2287ebe10e2374dc1a53e0bc887e592699f02d077d5263cdd55601c",
		"02622ace8f7303a31cafc63f8fc48fdc16e1c8c8d234b2f0d6685282a9076031",
		"20706fd788b2720a1ed2a5dad4952b01f413bcf0e7564de8cdc816689e2db95f",
		"bce83f8ba5dd2fa572864c24ba1810f9522bc6004afe95877ac73241cafdab42",
		"e4549ee16b9aa03099ca208c67adafcafa4c3f3e4e5303de6026e3ca8ff84460",
		"aa52e000df2e16f55fb1032fc33bc42742dad6bd5a8fc0be0167436c5948501f",
		"46376b80f409b29dc2b5f6f0c52591990896e5716f41477cd30085ab7f10301e",
		"e0c418f7c8d9c4cdd7395b93ea124f3ad99021bb681dfc3302a9d99a2e53e64e",
	}
}

func TestEncodeOfTheBasesMultiples(t *testing.T) {
	p := edwards.Identity()
	l := elements(15, 0)
	for n, text := range multiples() {
		want := bytesOf(text)
		if got := risto.Encode(p); got != want {
			t.Errorf("Encode of %d times the base = %x, want %x", n, got, want)
		}
		for _, q := range asOne(l[n]) {
			checkEncode(t, q, want)
		}
		p = edwards.Add(p, edwards.Base())
	}
}

func TestEncodeOfTheIdentity(t *testing.T) {
	if got := risto.Encode(edwards.Identity()); got != [32]byte{} {
		t.Errorf("Encode of the identity = %x", got)
	}
	for _, q := range four() {
		checkEncode(t, q, [32]byte{})
	}
	if got := risto.Encode(edwards.Add(edwards.Base(), edwards.Neg(edwards.Base()))); got != [32]byte{} {
		t.Errorf("Encode of the base less itself = %x", got)
	}
}

// TestEncodeOfElements: of each of the four points the bytes are the oracle's, and the same; each of the turns is taken, and is not.
func TestEncodeOfElements(t *testing.T) {
	var count [2][2]int
	for _, q := range elements(4, 25)[1:] {
		first, _, _ := encoded(q)
		for _, other := range asOne(q) {
			want, changed, turned := encoded(other)
			if want != first {
				t.Fatalf("the oracle's bytes of %v are not those of %v", other, q)
			}
			checkEncode(t, other, want)
			count[index(changed)][index(turned)]++
		}
	}
	for _, l := range count {
		if l[0] < 10 || l[1] < 10 {
			t.Errorf("points changed about or not, turned or not: %v", count)
		}
	}
}

func index(b bool) int {
	if b {
		return 1
	}
	return 0
}

// TestEncodeTellsApart: no two elements have the same bytes; an element and its negative are two.
func TestEncodeTellsApart(t *testing.T) {
	seen := map[[32]byte]bool{}
	l := elements(20, 20)
	for _, q := range l {
		p := coordinates(q, number(3))
		for _, b := range [][32]byte{risto.Encode(p), risto.Encode(edwards.Neg(p))} {
			if seen[b] && b != [32]byte{} {
				t.Errorf("%x is there twice", b)
			}
			seen[b] = true
		}
	}
	if len(seen) != 2*len(l)-1 {
		t.Errorf("%d elements, with their negatives, have %d encodings", len(l), len(seen))
	}
}

func TestEncodedThereAndBack(t *testing.T) {
	for _, q := range elements(15, 20) {
		for _, other := range asOne(q) {
			p := written(coordinates(other, number(5)))
			b := risto.Encode(p)
			back, ok := risto.Decode(b)
			if !ok || !risto.Equal(back, p) || !risto.Equal(p, back) || risto.Encode(back) != b {
				t.Errorf("%x, encoded, is %x, and back %x, %v", p, b, back, ok)
			}
		}
	}
}

// TestOfWhatIsNone: nothing is promised of what Encode answers here but that it answers.
func TestOfWhatIsNone(t *testing.T) {
	draw := draws(3)
	one := limb.Of(1)
	for _, p := range []edwards.Point{{}, {X: one}, {Y: one}, {Z: one}, {T: one}, {X: drawn(draw), Y: drawn(draw), Z: drawn(draw), T: drawn(draw)}, coordinates(drawnPair(draw), number(1))} {
		risto.Encode(p)
		risto.Encode(written(p))
	}
}
