package risto_test

import (
	"math/big"
	"testing"

	"vestry/edwards"
	"vestry/risto"
)

// Why bytes are not decoded: what the chapter asks for first stands first.
const (
	right = iota
	notCanonical
	isOdd
	noSquare
	oddProduct
	noY
	reasons
)

// decoded is the pair of the bytes, or why there is none.
func decoded(b [32]byte) (pair, int) {
	one := number(1)
	s := ofBytes(b)
	if s.Cmp(prime()) >= 0 {
		return pair{}, notCanonical
	}
	if odd(s) {
		return pair{}, isOdd
	}
	u1, u2 := minus(one, times(s, s)), plus(one, times(s, s))
	v := minus(less(times(curveD(), u1, u1)), times(u2, u2))
	r, square := root(one, times(v, u2, u2))
	if !square {
		return pair{}, noSquare
	}
	a := times(r, u2)
	x, y := size(times(number(2), s, a)), times(u1, r, a, v)
	if odd(times(x, y)) {
		return pair{}, oddProduct
	}
	if y.Sign() == 0 {
		return pair{}, noY
	}
	return pair{x, y}, right
}

// checkDecode holds Decode of the bytes against the oracle, and tells why there is no point.
func checkDecode(t *testing.T, b [32]byte) int {
	t.Helper()
	want, why := decoded(b)
	p, ok := risto.Decode(b)
	if ok != (why == right) {
		t.Fatalf("Decode(%x) says %v; the oracle's reason is %d", b, ok, why)
	}
	if !ok {
		if p != (edwards.Point{}) {
			t.Fatalf("Decode(%x) = %x beside false", b, p)
		}
		return why
	}
	expect(t, "Decode", p, want)
	if again := risto.Encode(p); again != b {
		t.Fatalf("%x, decoded and encoded, is %x", b, again)
	}
	return why
}

func checkReason(t *testing.T, b [32]byte, want int) {
	t.Helper()
	if got := checkDecode(t, b); got != want {
		t.Errorf("%x: the reason is %d, want %d", b, got, want)
	}
}

func TestDecodeOfTheBasesMultiples(t *testing.T) {
	l := elements(15, 0)
	for n, text := range multiples() {
		b := bytesOf(text)
		checkReason(t, b, right)
		p, _ := risto.Decode(b)
		if !risto.Equal(p, coordinates(l[n], number(1))) {
			t.Errorf("Decode of %d times the base = %x", n, p)
		}
	}
}

func TestDecodeOfNoughts(t *testing.T) {
	p, ok := risto.Decode([32]byte{})
	if !ok {
		t.Fatal("Decode of noughts says false")
	}
	expect(t, "Decode of noughts", p, identity())
}

func TestDecodeOfOne(t *testing.T) {
	if p, ok := risto.Decode([32]byte{1}); ok || p != (edwards.Point{}) {
		t.Errorf("Decode of 01 and noughts = %x, %v", p, ok)
	}
}

// TestDecodeOfDrawnBytes: most of the reasons come by chance, once the highest bit is away.
func TestDecodeOfDrawnBytes(t *testing.T) {
	draw := draws(4)
	var count [reasons]int
	for range 600 {
		b := drawnBytes(draw)
		count[checkDecode(t, b)]++
		b[31] &= 127
		count[checkDecode(t, b)]++
		b[0] &= 254
		count[checkDecode(t, b)]++
	}
	for _, why := range []int{right, notCanonical, isOdd, noSquare, oddProduct} {
		if count[why] < 50 {
			t.Errorf("how often each reason came: %v", count)
		}
	}
}

func TestDecodeOfSmallAndGreatNumbers(t *testing.T) {
	var count [reasons]int
	for n := range int64(150) {
		count[checkDecode(t, inBytes(number(n)))]++
		count[checkDecode(t, inBytes(less(number(n))))]++
	}
	if count[right] < 20 || count[notCanonical] != 0 || count[noY] != 1 {
		t.Errorf("how often each reason came: %v", count)
	}
}

// TestDecodeOfBytesThatAreNotCanonical: other ways to write what is decoded are not taken, nor is any number from p on.
func TestDecodeOfBytesThatAreNotCanonical(t *testing.T) {
	for n := range int64(19) {
		checkReason(t, inBytes(new(big.Int).Add(prime(), number(n))), notCanonical)
	}
	for n := range int64(60) {
		checkReason(t, inBytes(new(big.Int).Add(power(255), number(n))), notCanonical)
		checkReason(t, inBytes(new(big.Int).Sub(power(256), number(n+1))), notCanonical)
	}
	for _, text := range multiples() {
		b := bytesOf(text)
		checkReason(t, inBytes(new(big.Int).Add(ofBytes(b), prime())), notCanonical)
		b[31] |= 128
		checkReason(t, b, notCanonical)
	}
}

// TestDecodeOfOddNumbers: the negative of what is decoded stands for the same element, and is not taken.
func TestDecodeOfOddNumbers(t *testing.T) {
	for _, text := range multiples()[1:] {
		checkReason(t, inBytes(less(ofBytes(bytesOf(text)))), isOdd)
	}
	for n := int64(1); n < 100; n += 2 {
		checkReason(t, inBytes(number(n)), isOdd)
	}
}

// TestDecodeOfMinusOne: p - 1 is not odd, and nothing but its y of 0 is wrong.
func TestDecodeOfMinusOne(t *testing.T) {
	checkReason(t, inBytes(number(0).Sub(prime(), number(1))), noY)
}

// TestDecodeOfWrongBytes: those that RFC 9496 lists, by what is wrong with them.
func TestDecodeOfWrongBytes(t *testing.T) {
	for why, l := range map[int][]string{
		notCanonical: {
			"00ffffffffffffffffffffffffffffffffffffffffffffffffffffffffffffff",
			"ffffffffffffffffffffffffffffffffffffffffffffffffffffffffffffff7f",
			"f3ffffffffffffffffffffffffffffffffffffffffffffffffffffffffffff7f",
			"edffffffffffffffffffffffffffffffffffffffffffffffffffffffffffff7f",
		},
		isOdd: {
			"0100000000000000000000000000000000000000000000000000000000000000",
			"01ffffffffffffffffffffffffffffffffffffffffffffffffffffffffffff7f",
			"ed57ffd8c914fb201471d1c3d245ce3c746fcbe63a3679d51b6a516ebebe0e20",
			"c34c4e1826e5d403b78e246e88aa051c36ccf0aafebffe137d148a2bf9104562",
			"c940e5a4404157cfb1628b108db051a8d439e1a421394ec4ebccb9ec92a8ac78",
			"47cfc5497c53dc8e61c91d17fd626ffb1c49e2bca94eed052281b510b1117a24",
			"f1c6165d33367351b0da8f6e4511010c68174a03b6581212c71c0e1d026c3c72",
			"87260f7a2f12495118360f02c26a470f450dadf34a413d21042b43b9d93e1309",
		},
		noSquare: {
			"26948d35ca62e643e26a83177332e6b6afeb9d08e4268b650f1f5bbd8d81d371",
			"4eac077a713c57b4f4397629a4145982c661f48044dd3f96427d40b147d9742f",
			"de6a7b00deadc788eb6b6c8d20c0ae96c2f2019078fa604fee5b87d6e989ad7b",
			"bcab477be20861e01e4a0e295284146a510150d9817763caf1a6f4b422d67042",
			"2a292df7e32cababbd9de088d1d1abec9fc0440f637ed2fba145094dc14bea08",
			"f4a9e534fc0d216c44b218fa0c42d99635a0127ee2e53c712f70609649fdff22",
			"8268436f8c4126196cf64b3c7ddbda90746a378625f9813dd9b8457077256731",
			"2810e5cbc2cc4d4eece54f61c6f69758e289aa7ab440b3cbeaa21995c2f4232b",
		},
		oddProduct: {
			"3eb858e78f5a7254d8c9731174a94f76755fd3941c0ac93735c07ba14579630e",
			"a45fdc55c76448c049a1ab33f17023edfb2be3581e9c7aade8a6125215e04220",
			"d483fe813c6ba647ebbfd3ec41adca1c6130c2beeee9d9bf065c8d151c5f396e",
			"8a2e1d30050198c65a54483123960ccc38aef6848e1ec8f5f780e8523769ba32",
			"32888462f8b486c68ad7dd9610be5192bbeaf3b443951ac1a8118419d9fa097b",
			"227142501b9d4355ccba290404bde41575b037693cef1f438c47f8fbf35d1165",
			"5c37cc491da847cfeb9281d407efc41e15144c876e0170b499a96a22ed31e01e",
			"445425117cb8c90edcbc7c1cc0e74f747f2c1efa5630a967c64f287792a48a4b",
		},
		noY: {
			"ecffffffffffffffffffffffffffffffffffffffffffffffffffffffffffff7f",
		},
	} {
		for _, text := range l {
			checkReason(t, bytesOf(text), why)
		}
	}
}
