package algebra_test

import (
	"encoding/hex"
	"math/big"
	"math/rand"
	"slices"

	"vestry/api"
)

// The oracle is math/big: elements are pairs x, y of the curve, summed with divisions, and their bytes are RFC 9496's, written for pairs. It shares nothing with the program but the words.

type pair struct{ x, y *big.Int }

func number(n int64) *big.Int { return big.NewInt(n) }

func power(n uint) *big.Int { return new(big.Int).Lsh(number(1), n) }

func prime() *big.Int { return new(big.Int).Sub(power(255), number(19)) }

// order is l.
func order() *big.Int {
	low, _ := new(big.Int).SetString("27742317777372353535851937790883648493", 10)
	return low.Add(low, power(252))
}

func mod(n *big.Int) *big.Int { return new(big.Int).Mod(n, prime()) }

func plus(a, b *big.Int) *big.Int { return mod(new(big.Int).Add(a, b)) }

func minus(a, b *big.Int) *big.Int { return mod(new(big.Int).Sub(a, b)) }

func times(l ...*big.Int) *big.Int {
	r := number(1)
	for _, a := range l {
		r = mod(r.Mul(r, a))
	}
	return r
}

func over(a, b *big.Int) *big.Int { return times(a, new(big.Int).ModInverse(b, prime())) }

func odd(a *big.Int) bool { return mod(a).Bit(0) == 1 }

// size is the one of a and -a that is not odd.
func size(a *big.Int) *big.Int {
	if odd(a) {
		return minus(number(0), a)
	}
	return mod(a)
}

func curveD() *big.Int { return over(number(-121665), number(121666)) }

// rootOfMinusOne is the one that is called i.
func rootOfMinusOne() *big.Int {
	return new(big.Int).Exp(number(2), new(big.Int).Rsh(new(big.Int).Sub(prime(), number(1)), 2), prime())
}

func identity() pair { return pair{number(0), number(1)} }

func base() pair {
	y := over(number(4), number(5))
	yy := times(y, y)
	x := new(big.Int).ModSqrt(over(minus(yy, number(1)), plus(times(curveD(), yy), number(1))), prime())
	return pair{size(x), y}
}

func added(a, b pair) pair {
	d := times(curveD(), a.x, b.x, a.y, b.y)
	x := over(plus(times(a.x, b.y), times(b.x, a.y)), plus(number(1), d))
	y := over(plus(times(a.y, b.y), times(a.x, b.x)), minus(number(1), d))
	return pair{x, y}
}

func opposite(a pair) pair { return pair{minus(number(0), a.x), a.y} }

func multiple(k *big.Int, p pair) pair {
	q := identity()
	for i := k.BitLen() - 1; i >= 0; i-- {
		q = added(q, q)
		if k.Bit(i) == 1 {
			q = added(q, p)
		}
	}
	return q
}

// encoded turns the pair to the one of the four that count as one with it of which neither x y nor x is odd, and x y is not 0; of that one s s = (1 - y) / (1 + y).
func encoded(p pair) api.Point {
	if p.x.Sign() == 0 || p.y.Sign() == 0 { // one of the four that count as the identity
		return api.Point{}
	}
	if odd(times(p.x, p.y)) {
		p = pair{times(rootOfMinusOne(), p.y), times(rootOfMinusOne(), p.x)}
	}
	if odd(p.x) {
		p = pair{minus(number(0), p.x), minus(number(0), p.y)}
	}
	square := over(minus(number(1), p.y), plus(number(1), p.y))
	return inBytes(size(new(big.Int).ModSqrt(square, prime())))
}

// decoded is the pair of the bytes, if there is one.
func decoded(b api.Point) (pair, bool) {
	s := ofBytes(b[:])
	if s.Cmp(prime()) >= 0 || odd(s) {
		return pair{}, false
	}
	ss := times(s, s)
	below := plus(number(1), ss)
	if below.Sign() == 0 {
		return pair{}, false
	}
	y := over(minus(number(1), ss), below)
	yy := times(y, y)
	x := new(big.Int).ModSqrt(over(minus(yy, number(1)), plus(times(curveD(), yy), number(1))), prime())
	if x == nil || odd(times(size(x), y)) || y.Sign() == 0 {
		return pair{}, false
	}
	return pair{size(x), y}, true
}

func mustDecode(b api.Point) pair {
	p, ok := decoded(b)
	if !ok {
		panic("no point: " + hex.EncodeToString(b[:]))
	}
	return p
}

// inBytes is a number below 2^256 in 32 bytes, the lowest first.
func inBytes(n *big.Int) [32]byte {
	var b [32]byte
	n.FillBytes(b[:])
	slices.Reverse(b[:])
	return b
}

func ofBytes(b []byte) *big.Int {
	l := slices.Clone(b)
	slices.Reverse(l)
	return new(big.Int).SetBytes(l)
}

func bytesOf(text string) [32]byte {
	var b [32]byte
	if n, err := hex.Decode(b[:], []byte(text)); err != nil || n != 32 {
		panic(text)
	}
	return b
}

// scalarOf is the scalar of a number, modulo l.
func scalarOf(n *big.Int) api.Scalar { return inBytes(new(big.Int).Mod(n, order())) }

func numberOf(s api.Scalar) *big.Int { return ofBytes(s[:]) }

// orderPlus is the bytes of l and so much, not modulo l.
func orderPlus(n int64) api.Scalar { return inBytes(new(big.Int).Add(order(), number(n))) }

func full() [32]byte { return inBytes(new(big.Int).Sub(power(256), number(1))) }

func draws(seed int64) *rand.Rand { return rand.New(rand.NewSource(seed)) }

func drawnBytes(draw *rand.Rand) [32]byte {
	var b [32]byte
	draw.Read(b[:])
	return b
}

func drawnScalar(draw *rand.Rand) api.Scalar {
	b := drawnBytes(draw)
	return scalarOf(ofBytes(b[:]))
}

// drawnPair is an element: twice a point of the curve.
func drawnPair(draw *rand.Rand) pair {
	for {
		b := drawnBytes(draw)
		y := mod(ofBytes(b[:]))
		yy := times(y, y)
		x := new(big.Int).ModSqrt(over(minus(yy, number(1)), plus(times(curveD(), yy), number(1))), prime())
		if x != nil {
			return added(pair{x, y}, pair{x, y})
		}
	}
}

func drawnPoint(draw *rand.Rand) api.Point { return encoded(drawnPair(draw)) }

// wrongScalars are bytes that are no scalar.
func wrongScalars() []api.Scalar {
	return []api.Scalar{orderPlus(0), orderPlus(1), inBytes(power(253)), inBytes(power(255)), full(), inBytes(new(big.Int).Mul(order(), number(15)))}
}

// wrongPoints are bytes that are no point, one or more for each thing that layer 4 asks for: p and more; an odd number; no square; an odd product; a y of 0.
func wrongPoints() []api.Point {
	return []api.Point{
		full(),
		inBytes(prime()),
		inBytes(power(255)),
		{1},
		bytesOf("ed57ffd8c914fb201471d1c3d245ce3c746fcbe63a3679d51b6a516ebebe0e20"),
		bytesOf("26948d35ca62e643e26a83177332e6b6afeb9d08e4268b650f1f5bbd8d81d371"),
		bytesOf("3eb858e78f5a7254d8c9731174a94f76755fd3941c0ac93735c07ba14579630e"),
		inBytes(new(big.Int).Sub(prime(), number(1))),
	}
}

// listed are the base's multiples, from none on, as RFC 9496 lists them.
func listed() []api.Point {
	var l []api.Point
	for _, text := range []string{
		"0000000000000000000000000000000000000000000000000000000000000000",
		"e2f2ae0a6abc4e71a884a961c500515f58e30b6aa582dd8db6a65945e08d2d76",
		"6a493210f7499cd17fecb510ae0cea23a110e8d5b901f8acadd3095c73a3b919",
		"94741f5d5d52755ece4f23f044ee27d5d1ea1e2bd196b462166b16152a9d0259",
		"da80862773358b466ffadfe0b3293ab3d9fd53c5ea6c955358f568322daf6a57",
		"e882b131016b52c1d3337080187cf768423efccbb517bb495ab812c4160ff44e",
		"f64746d3c92b13050ed8d80236a7f0007c3b3f962f5ba793d19a601ebb1df403",
		"44f53520926ec81fbd5a387845beb7df85a96a24ece18738bdcfa6a7822a176d",
		"903293d8f2287ebe10e2374dc1a53e0bc887e592699f02d077d5263cdd55601c",
		"02622ace8f7303a31cafc63f8fc48fdc16e1c8c8d234b2f0d6685282a9076031",
		"20706fd788b2720a1ed2a5dad4952b01f413bcf0e7564de8cdc816689e2db95f",
		"bce83f8ba5dd2fa572864c24ba1810f9522bc6004afe95877ac73241cafdab42",
		"e4549ee16b9aa03099ca208c67adafcafa4c3f3e4e5303de6026e3ca8ff84460",
		"aa52e000df2e16f55fb1032fc33bc42742dad6bd5a8fc0be0167436c5948501f",
		"46376b80f409b29dc2b5f6f0c52591990896e5716f41477cd30085ab7f10301e",
		"e0c418f7c8d9c4cdd7395b93ea124f3ad99021bb681dfc3302a9d99a2e53e64e",
	} {
		l = append(l, bytesOf(text))
	}
	return l
}
