package risto_test

import (
	"encoding/hex"
	"math/big"
	"testing"

	"vestry/edwards"
	"vestry/risto"
)

// halfOf is half of a map of t, by divisions; and whether it was a square.
func halfOf(t *big.Int) (pair, bool) {
	one, d := number(1), curveD()
	r := times(numberI(), t, t)
	u := times(plus(r, one), minus(one, times(d, d)))
	v := times(minus(number(-1), times(r, d)), plus(r, d))
	s, square := root(u, v)
	c := number(-1)
	if !square {
		s, c = less(size(times(s, t))), r
	}
	n := minus(times(c, minus(r, one), minus(d, one), minus(d, one)), v)
	m, _ := root(minus(number(-1), d), one)
	w1 := times(n, less(m)) // root's is not odd
	w2, w3 := minus(one, times(s, s)), plus(one, times(s, s))
	return pair{over(times(number(2), s, v), w1), over(w2, w3)}, square
}

// numberOf is what a half's bytes are read as.
func numberOf(b [32]byte) *big.Int {
	b[31] &= 127
	return mod(ofBytes(b))
}

func halves(first, last [32]byte) [64]byte {
	var b [64]byte
	copy(b[:], first[:])
	copy(b[32:], last[:])
	return b
}

// checkMap holds Map of the halves against the oracle, and tells how many of them were squares.
func checkMap(t *testing.T, first, last [32]byte) int {
	t.Helper()
	a, one := halfOf(numberOf(first))
	b, two := halfOf(numberOf(last))
	p := risto.Map(halves(first, last))
	expect(t, "Map", p, sum(a, b))
	expect(t, "Map with the halves changed about", risto.Map(halves(last, first)), sum(a, b))
	back, ok := risto.Decode(risto.Encode(p))
	if !ok || !risto.Equal(back, p) {
		t.Fatalf("Map(%x, %x) is no element: %x, %v", first, last, back, ok)
	}
	return index(one) + index(two)
}

func TestMapOfDrawnBytes(t *testing.T) {
	draw := draws(7)
	var count [3]int
	for range 150 {
		count[checkMap(t, drawnBytes(draw), drawnBytes(draw))]++
	}
	if count[0] < 10 || count[1] < 10 || count[2] < 10 {
		t.Errorf("none, one, two squares: %v", count)
	}
}

// edges are bytes of small numbers and great ones, of those from p on, and of the t whose v is 0.
func edges() [][32]byte {
	l := [][32]byte{{}, {1}, {2}, inBytes(less(number(1))), inBytes(prime()), inBytes(new(big.Int).Add(prime(), number(1))),
		inBytes(new(big.Int).Sub(power(255), number(1))), inBytes(power(254)), inBytes(numberI())}
	for _, r := range []*big.Int{less(curveD()), over(number(-1), curveD())} {
		t := new(big.Int).ModSqrt(over(r, numberI()), prime())
		l = append(l, inBytes(t), inBytes(less(t)))
	}
	return l
}

func TestMapOfEdges(t *testing.T) {
	for _, first := range edges() {
		for _, last := range edges() {
			checkMap(t, first, last)
		}
	}
}

// TestMapWithTheHighestBits: they count for nothing, in either half.
func TestMapWithTheHighestBits(t *testing.T) {
	draw := draws(8)
	l := edges()
	for range 20 {
		l = append(l, drawnBytes(draw))
	}
	for i, first := range l {
		last := l[(i+5)%len(l)]
		first[31], last[31] = first[31]&127, last[31]&127
		want := risto.Map(halves(first, last))
		for _, set := range [][2]byte{{128, 0}, {0, 128}, {128, 128}} {
			a, b := first, last
			a[31], b[31] = a[31]|set[0], b[31]|set[1]
			checkMap(t, a, b)
			if got := risto.Map(halves(a, b)); !edwards.Same(got, want) {
				t.Errorf("Map(%x, %x) = %x, want %x", a, b, got, want)
			}
		}
	}
}

// TestMapOfBytesFromPOn: they are read modulo p, in either half.
func TestMapOfBytesFromPOn(t *testing.T) {
	other := drawnBytes(draws(9))
	for n := range int64(19) {
		small, great := inBytes(number(n)), inBytes(new(big.Int).Add(prime(), number(n)))
		checkMap(t, great, other)
		if !edwards.Same(risto.Map(halves(great, other)), risto.Map(halves(small, other))) || !edwards.Same(risto.Map(halves(other, great)), risto.Map(halves(other, small))) {
			t.Errorf("p + %d is not mapped as %d is", n, n)
		}
	}
}

// TestMapOfNoughts: both halves are the same point, taken twice.
func TestMapOfNoughts(t *testing.T) {
	q, _ := halfOf(number(0))
	expect(t, "Map of noughts", risto.Map([64]byte{}), sum(q, q))
}

// TestMapOfANegative: t and -t have the same half.
func TestMapOfANegative(t *testing.T) {
	draw := draws(10)
	for range 20 {
		b, other := drawnBytes(draw), drawnBytes(draw)
		negative := inBytes(less(numberOf(b)))
		if !edwards.Same(risto.Map(halves(b, other)), risto.Map(halves(negative, other))) {
			t.Errorf("the halves of %x and %x are unlike", b, negative)
		}
	}
}

// TestMapOfTheListed: bytes and their elements as RFC 9496 lists them; the last four are written unlike and read alike.
func TestMapOfTheListed(t *testing.T) {
	const alike = "304282791023b73128d277bdcb5c7746ef2eac08dde9f2983379cb8e5ef0517f"
	for _, c := range [][2]string{
		{"5d1be09e3d0c82fc538112490e35701979d99e06ca3e2b5b54bffe8b4dc772c14d98b696a1bbfb5ca32c436cc61c16563790306c79eaca7705668b47dffe5bb6", "3066f82a1a747d45120d1740f14358531a8f04bbffe6a819f86dfe50f44a0a46"},
		{"f116b34b8f17ceb56e8732a60d913dd10cce47a6d53bee9204be8b44f6678b270102a56902e2488c46120e9276cfe54638286b9e4b3cdb470b542d46c2068d38", "f26e5b6f7d362d2d2a94c5d0e7602cb4773c95a2e5c31a64f133189fa76ed61b"},
		{"8422e1bbdaab52938b81fd602effb6f89110e1e57208ad12d9ad767e2e25510c27140775f9337088b982d83d7fcf0b2fa1edffe51952cbe7365e95c86eaf325c", "006ccd2a9e6867e6a2c5cea83d3302cc9de128dd2a9a57dd8ee7b9d7ffe02826"},
		{"ac22415129b61427bf464e17baee8db65940c233b98afce8d17c57beeb7876c2150d15af1cb1fb824bbd14955f2b57d08d388aab431a391cfc33d5bafb5dbbaf", "f8f0c87cf237953c5890aec3998169005dae3eca1fbb04548c635953c817f92a"},
		{"165d697a1ef3d5cf3c38565beefcf88c0f282b8e7dbd28544c483432f1cec7675debea8ebb4e5fe7d6f6e5db15f15587ac4d4d4a1de7191e0c1ca6664abcc413", "ae81e7dedf20a497e10c304a765c1767a42d6e06029758d2d7e8ef7cc4c41179"},
		{"a836e6c9a9ca9f1e8d486273ad56a78c70cf18f0ce10abb1c7172ddd605d7fd2979854f47ae1ccf204a33102095b4200e5befc0465accc263175485f0e17ea5c", "e2705652ff9f5e44d3e841bf1c251cf7dddb77d140870d1ab2ed64f1a9ce8628"},
		{"2cdc11eaeb95daf01189417cdddbf95952993aa9cb9c640eb5058d09702c74622c9965a697a3b345ec24ee56335b556e677b30e6f90ac77d781064f866a3c982", "80bd07262511cdde4863f8a7434cef696750681cb9510eea557088f76d9e5065"},
		{"edffffffffffffffffffffffffffffffffffffffffffffffffffffffffffffff1200000000000000000000000000000000000000000000000000000000000000", alike},
		{"edffffffffffffffffffffffffffffffffffffffffffffffffffffffffffff7fffffffffffffffffffffffffffffffffffffffffffffffffffffffffffffffff", alike},
		{"0000000000000000000000000000000000000000000000000000000000000080ffffffffffffffffffffffffffffffffffffffffffffffffffffffffffffff7f", alike},
		{"00000000000000000000000000000000000000000000000000000000000000001200000000000000000000000000000000000000000000000000000000000080", alike},
	} {
		var b [64]byte
		if n, err := hex.Decode(b[:], []byte(c[0])); err != nil || n != 64 {
			t.Fatal(c[0])
		}
		if got := risto.Encode(risto.Map(b)); got != bytesOf(c[1]) {
			t.Errorf("Map(%s) is encoded as %x, want %s", c[0], got, c[1])
		}
	}
}
