package residue_test

import (
	"math/big"
	"math/rand"
	"slices"
	"testing"

	"vestry/api"
	"vestry/residue"
)

// The oracle is math/big: it shares nothing with the package but the bytes.

func power(n uint) *big.Int { return new(big.Int).Lsh(big.NewInt(1), n) }

// order is l, as the chapter writes it.
func order() *big.Int {
	low, _ := new(big.Int).SetString("27742317777372353535851937790883648493", 10)
	return low.Add(low, power(252))
}

// number is the number of some bytes, the lowest first.
func number(b []byte) *big.Int {
	l := slices.Clone(b)
	slices.Reverse(l)
	return new(big.Int).SetBytes(l)
}

// raw is a number's 32 bytes as it stands, not modulo l.
func raw(n *big.Int) api.Scalar {
	var a api.Scalar
	n.FillBytes(a[:])
	slices.Reverse(a[:])
	return a
}

// scalar is the one answer that is allowed for a number.
func scalar(n *big.Int) api.Scalar { return raw(new(big.Int).Mod(n, order())) }

func orderPlus(n int64) api.Scalar { return raw(new(big.Int).Add(order(), big.NewInt(n))) }

func full() api.Scalar { return raw(new(big.Int).Sub(power(256), big.NewInt(1))) }

// edges are the numbers beside the multiples of l and beside the powers of 2 at which words and carries turn; most of them may not be.
func edges() []api.Scalar {
	var l []api.Scalar
	add := func(n *big.Int) {
		for d := int64(-3); d <= 3; d++ {
			if m := new(big.Int).Add(n, big.NewInt(d)); m.Sign() >= 0 && m.BitLen() <= 256 {
				l = append(l, raw(m))
			}
		}
	}
	for k := range int64(16) {
		add(new(big.Int).Mul(order(), big.NewInt(k)))
	}
	for _, n := range []uint{64, 128, 192, 251, 252, 253, 254, 255, 256} {
		add(power(n))
	}
	add(new(big.Int).Rsh(order(), 1))
	all := full()
	for i := range 4 { // one word of ones, all but one
		ones := new(big.Int).Lsh(new(big.Int).SetUint64(1<<64-1), uint(64*i))
		l = append(l, raw(ones), raw(new(big.Int).Sub(number(all[:]), ones)))
	}
	return l
}

// samples are the edges and some others: all 32 bytes drawn, so that nearly all of these may not be, and as many that may.
func samples(others int) []api.Scalar {
	l := edges()
	draw := rand.New(rand.NewSource(2))
	for range others {
		var a api.Scalar
		draw.Read(a[:])
		l = append(l, a)
		a[31] &= 15
		l = append(l, a)
	}
	return l
}

func TestOrder(t *testing.T) {
	if !order().ProbablyPrime(20) {
		t.Error("l is no prime")
	}
}

func TestMay(t *testing.T) {
	for _, a := range samples(1000) {
		if got, want := residue.May(a), number(a[:]).Cmp(order()) < 0; got != want {
			t.Errorf("May(%x) = %v", a, got)
		}
	}
	if !residue.May(api.Scalar{}) || !residue.May(orderPlus(-1)) {
		t.Error("0 and l - 1 may be")
	}
	if residue.May(orderPlus(0)) || residue.May(orderPlus(3)) || residue.May(full()) {
		t.Error("l, l + 3 and 32 bytes ff may not be")
	}
}

func TestMayAtEachByte(t *testing.T) {
	for i := range 32 {
		above, below := orderPlus(0), orderPlus(0)
		above[i]++ // no byte of l is ff
		if residue.May(above) {
			t.Errorf("May of l with its byte %d one more", i)
		}
		if below[i] > 0 {
			below[i]--
			if !residue.May(below) {
				t.Errorf("not May of l with its byte %d one less", i)
			}
		}
	}
}

func TestOf(t *testing.T) {
	for _, n := range []uint64{0, 1, 2, 255, 256, 1 << 32, 1 << 63, 1<<64 - 1, 0x0102030405060708} {
		if got := residue.Of(n); got != scalar(new(big.Int).SetUint64(n)) {
			t.Errorf("Of(%d) = %x", n, got)
		}
	}
	if got := residue.Of(0x0201); got != (api.Scalar{1, 2}) {
		t.Errorf("Of tells %x: the lowest byte is not first", got)
	}
}

func checkWide(t *testing.T, b [64]byte) {
	t.Helper()
	if got, want := residue.Wide(b), scalar(number(b[:])); got != want {
		t.Errorf("Wide(%x) = %x, want %x", b, got, want)
	}
}

func joined(low, high api.Scalar) (b [64]byte) {
	copy(b[:32], low[:])
	copy(b[32:], high[:])
	return b
}

func TestWide(t *testing.T) {
	l := edges()
	for _, low := range l {
		for _, high := range l {
			checkWide(t, joined(low, high))
		}
	}
	draw := rand.New(rand.NewSource(3))
	for range 1000 {
		var b [64]byte
		draw.Read(b[:])
		checkWide(t, b)
	}
	if got := residue.Wide(joined(orderPlus(0), api.Scalar{})); got != (api.Scalar{}) {
		t.Errorf("Wide of l's bytes and 32 noughts = %x", got)
	}
	if got := residue.Wide(joined(api.Scalar{}, orderPlus(0))); got != (api.Scalar{}) {
		t.Errorf("Wide of 32 noughts and l's bytes = %x", got)
	}
	if got, want := residue.Wide(joined(full(), full())), scalar(new(big.Int).Sub(power(512), big.NewInt(1))); got != want {
		t.Errorf("Wide of 64 bytes ff = %x, want %x", got, want)
	}
}

func TestWideAtEachBit(t *testing.T) {
	for at := range 512 {
		var b [64]byte
		b[at/8] = 1 << (at % 8)
		checkWide(t, b)
		for i := range b {
			b[i] = ^b[i]
		}
		checkWide(t, b)
	}
}

// TestWideBesideMultiples: at k l the last l must come off, at k l - 1 it must not.
func TestWideBesideMultiples(t *testing.T) {
	draw := rand.New(rand.NewSource(4))
	for range 1000 {
		k := new(big.Int).Rand(draw, power(uint(draw.Intn(259)+1)))
		for d := int64(-1); d <= 1; d++ {
			n := new(big.Int).Mul(k, order())
			if n.Add(n, big.NewInt(d)); n.Sign() < 0 {
				continue
			}
			var b [64]byte
			n.FillBytes(b[:])
			slices.Reverse(b[:])
			checkWide(t, b)
		}
	}
}
