package limb_test

import (
	"math/big"
	"slices"
	"testing"

	"vestry/limb"
)

// written is a number below 2^256 in 32 bytes, the lowest first.
func written(n *big.Int) [32]byte {
	var b [32]byte
	n.FillBytes(b[:])
	slices.Reverse(b[:])
	return b
}

func TestBytes(t *testing.T) {
	for _, a := range samples(1000) {
		if got, want := limb.Bytes(a), written(number(canonical(number(a)))); got != want {
			t.Errorf("Bytes(%x) = %x, want %x", a, got, want)
		}
	}
	if limb.Bytes(primePlus(3)) != [32]byte{3} || limb.Bytes(limb.Of(0x0102)) != [32]byte{2, 1} {
		t.Error("Bytes of p + 3, or of 258")
	}
	if limb.Bytes(fe{0, 0, 0, 1 << 56})[31] != 1 {
		t.Error("the highest byte is not the last one")
	}
}

func TestRead(t *testing.T) {
	for _, a := range samples(1000) {
		n := number(a)
		got, ok := limb.Read(written(n))
		if want, below := canonical(n), n.Cmp(prime()) < 0; got != want || ok != below {
			t.Errorf("Read(%x) = %x, %v, want %x, %v", written(n), got, ok, want, below)
		}
	}
}

func TestReadOfWhatIsNotBelowP(t *testing.T) {
	for n := range int64(40) { // past 2^255 as well: all 256 bits count
		a, ok := limb.Read(written(new(big.Int).Add(prime(), big.NewInt(n))))
		if a != limb.Of(uint64(n)) || ok {
			t.Errorf("Read of p + %d = %x, %v", n, a, ok)
		}
	}
	if a, ok := limb.Read(written(new(big.Int).Sub(prime(), big.NewInt(1)))); a != primePlus(-1) || !ok {
		t.Errorf("Read of p - 1 = %x, %v", a, ok)
	}
	if a, ok := limb.Read([32]byte{31: 0x80}); a != limb.Of(19) || ok {
		t.Errorf("Read of 2^255 = %x, %v", a, ok)
	}
	var all [32]byte
	for i := range all {
		all[i] = 0xff
	}
	if a, ok := limb.Read(all); a != limb.Of(37) || ok {
		t.Errorf("Read of 32 bytes ff = %x, %v", a, ok)
	}
}

func TestOneWayToWrite(t *testing.T) {
	for _, a := range samples(1000) {
		if got, ok := limb.Read(limb.Bytes(a)); got != limb.Canon(a) || !ok {
			t.Errorf("what Bytes wrote of %x is read as %x, %v", a, got, ok)
		}
		b := written(number(a))
		got, ok := limb.Read(b)
		if ok != (limb.Bytes(got) == b) {
			t.Errorf("Read(%x) says %v, and is written as %x", b, ok, limb.Bytes(got))
		}
	}
}
