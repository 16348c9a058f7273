package bind

import (
	"bytes"
	"crypto/sha512"
	"slices"
	"testing"

	"vestry/algebra"
	"vestry/api"
)

// No seed is known whose draw is 0: here they are told.
func TestScalarsThatAre0AreDrawnAgain(t *testing.T) {
	order := [64]byte{0xed, 0xd3, 0xf5, 0x5c, 0x1a, 0x63, 0x12, 0x58, 0xd6, 0x9c, 0xf7, 0xa2, 0xde, 0xf9, 0xde, 0x14, 31: 0x10}
	for _, c := range [][][64]byte{
		{{5}},
		{{}, {5}},
		{order, {5}},
		{{}, order, {}, order, {5}, {6}},
	} {
		told := 0
		k := nonzero(func() [64]byte {
			told++
			return c[told-1]
		})
		want := slices.IndexFunc(c, func(b [64]byte) bool { return b[0] == 5 }) + 1
		if k != algebra.Of(5) || told != want {
			t.Errorf("%d draws make %x, want %d and 5", told, k, want)
		}
	}
}

// Nobody draws so often that all eight bytes of a count are used: here it begins late.
func TestACountOfEightBytes(t *testing.T) {
	for _, count := range []uint64{1<<16 - 1, 1<<24 - 1, 1<<32 - 1, 1<<40 - 1, 1<<48 - 1, 1<<56 - 1, 0x0102030405060708} {
		d := FromSeed([]byte("s"))
		d.count = count
		for i := range uint64(3) {
			text := []byte{0, 0, 0, 1, 's', 5}
			for at := range 8 {
				text = append(text, byte((count+i)>>(56-8*at)))
			}
			if got := d.next(); got != sha512.Sum512(text) {
				t.Errorf("the draw %d is %x", count+i, got)
			}
		}
	}
}

// What is asked isn't laid into the room behind what is kept either.
func TestToAskWritesNothing(t *testing.T) {
	s := New("a")
	s.text = append(make([]byte, 0, 500), s.text...)
	d := FromSeed([]byte("s"))
	d.seed = append(make([]byte, 0, 500), d.seed...)
	script, seed := slices.Clone(s.text[:500]), slices.Clone(d.seed[:500])
	if s.Scalar("x") == (api.Scalar{}) || s.Point("x") == (api.Point{}) || len(s.Bytes("x", 40)) != 40 {
		t.Error("no answer")
	}
	if d.Scalar() == (api.Scalar{}) || len(d.Bytes(40)) != 40 {
		t.Error("no draw")
	}
	if !bytes.Equal(s.text[:500], script) || !bytes.Equal(d.seed[:500], seed) {
		t.Error("the room behind what is kept was written into")
	}
}

func TestCut(t *testing.T) {
	list := append(make([]int, 0, 10), 1, 2, 3)
	short := cut(list)
	if !slices.Equal(short, []int{1, 2, 3}) || cap(short) != 3 || len(cut([]string(nil))) != 0 {
		t.Errorf("cut: %v with room for %d", short, cap(short))
	}
	if _ = append(short, 4); list[:4][3] != 0 {
		t.Error("what was put behind a cut list stands in the list's room")
	}
}
