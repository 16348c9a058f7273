package bind_test

import (
	"bytes"
	"testing"

	"vestry/algebra"
	"vestry/api"
	"vestry/bind"
)

func checkNextScalar(t *testing.T, d *bind.Draws, seed []byte, count uint64) {
	t.Helper()
	if got, want := d.Scalar(), scalarOf(seed, count); got != want {
		t.Errorf("of a seed of %d bytes scalar %d is %x, want %x", len(seed), count, got, want)
	}
}

func checkNextBytes(t *testing.T, d *bind.Draws, seed []byte, count uint64, n int) {
	t.Helper()
	got, want := d.Bytes(n), drawnBytes(seed, count, n)
	if len(got) != n || !bytes.Equal(got, want) {
		t.Errorf("of a seed of %d bytes draw %d, %d bytes, is %.40x.. (%d bytes), want %.40x..", len(seed), count, n, got, len(got), want)
	}
}

func TestScalarsAndBytesInTurns(t *testing.T) {
	for _, size := range append(lengths(), 31, 32, 33, 64, 128) {
		seed := some(size)
		d := bind.FromSeed(seed)
		var count uint64
		for _, n := range taken() {
			checkNextScalar(t, d, seed, count)
			checkNextBytes(t, d, seed, count+1, n)
			checkNextBytes(t, d, seed, count+2, n)
			checkNextScalar(t, d, seed, count+3)
			count += 4
		}
	}
}

func TestASeedWithAFormOfFourBytes(t *testing.T) {
	seed := some(1<<24 + 258)
	d := bind.FromSeed(seed)
	checkNextScalar(t, d, seed, 0)
	checkNextBytes(t, d, seed, 1, 32)
}

// A count runs over what one byte, and two, tell.
func TestManyDraws(t *testing.T) {
	seed := []byte("many draws")
	d := bind.FromSeed(seed)
	for count := range uint64(1<<16 + 3) {
		if count%256 < 2 || count%256 == 255 || count > 1<<16-3 {
			checkNextScalar(t, d, seed, count)
		} else {
			d.Bytes(0)
		}
	}
}

func TestAScalarThatIsDrawnMayBeAndIsNot0(t *testing.T) {
	d := bind.FromSeed(some(32))
	before := map[api.Scalar]int{}
	for i := range 2000 {
		k := d.Scalar()
		if k == (api.Scalar{}) || !algebra.IsScalar(k) {
			t.Errorf("scalar %d is %x", i, k)
		}
		if j, ok := before[k]; ok {
			t.Errorf("the scalars %d and %d are the same", j, i)
		}
		before[k] = i
	}
}

// An n that may not be takes no draw; 0 takes one.
func TestWhichLengthsTakeADraw(t *testing.T) {
	seed := some(40)
	d := bind.FromSeed(seed)
	var count uint64
	for _, n := range refused() {
		if got := d.Bytes(n); len(got) != 0 {
			t.Errorf("Bytes(%d) are %d bytes, want none", n, len(got))
		}
		checkNextScalar(t, d, seed, count)
		if got := d.Bytes(n); len(got) != 0 {
			t.Errorf("Bytes(%d) are %d bytes, want none", n, len(got))
		}
		checkNextBytes(t, d, seed, count+1, 8160)
		count += 2
	}
	for range 3 {
		if got := d.Bytes(0); len(got) != 0 {
			t.Errorf("Bytes(0) are %d bytes, want none", len(got))
		}
		checkNextScalar(t, d, seed, count+1)
		count += 2
	}
}

func TestSourcesOfOneSeed(t *testing.T) {
	a, b := bind.FromSeed(some(32)), bind.FromSeed(some(32))
	if a == b {
		t.Fatal("one source for two calls")
	}
	for i := range 50 {
		if a.Scalar() != b.Scalar() || !bytes.Equal(a.Bytes(i), b.Bytes(i)) {
			t.Errorf("two sources of one seed tell unlike draws, at %d", i)
		}
	}
	for i := range 10 {
		a.Scalar()
		checkNextScalar(t, a, some(32), uint64(101+2*i))
	}
	checkNextScalar(t, b, some(32), 100)
}

func TestUnlikeSeeds(t *testing.T) {
	before := map[api.Scalar]string{}
	for _, seed := range []string{"", "s", "t", "\x00", "\x00\x00", "s\x00", "\x00s", "\x00\x00\x00\x00", "s\x05\x00\x00\x00\x00\x00\x00\x00\x00"} {
		d := bind.FromSeed([]byte(seed))
		for range 3 {
			k := d.Scalar()
			if was, ok := before[k]; ok {
				t.Errorf("the seeds %q and %q tell one scalar, or one of them tells it twice", seed, was)
			}
			before[k] = seed
		}
	}
}

func TestDrawsNilIsEmpty(t *testing.T) {
	for _, empty := range [][]byte{nil, {}, make([]byte, 0, 50), []byte("abc")[3:]} {
		d := bind.FromSeed(empty)
		if d == nil {
			t.Fatal("no source")
		}
		checkNextScalar(t, d, nil, 0)
		checkNextBytes(t, d, nil, 1, 33)
	}
}

func TestASourceThatIsNotThere(t *testing.T) {
	var d *bind.Draws
	if k := d.Scalar(); k != (api.Scalar{}) {
		t.Errorf("nil: Scalar %x", k)
	}
	for _, n := range append(taken(), refused()...) {
		if got := d.Bytes(n); len(got) != 0 {
			t.Errorf("nil: Bytes of %d are %d bytes", n, len(got))
		}
	}
}

func TestSeedsStayAsTheyWereAndAreNotKept(t *testing.T) {
	for _, n := range lengths() {
		seed, same := guarded(some(n))
		d := bind.FromSeed(seed)
		checkNextScalar(t, d, some(n), 0)
		checkNextBytes(t, d, some(n), 1, 70)
		if !same() {
			t.Errorf("a seed of %d bytes, or its room, was changed", n)
		}
		scribbled(seed)
		checkNextScalar(t, d, some(n), 2)
		checkNextBytes(t, d, some(n), 3, 70)
	}
}

func TestDrawsAnswerNewMemory(t *testing.T) {
	for _, n := range taken() {
		seed := some(32)
		d := bind.FromSeed(seed)
		one, two := d.Bytes(n), d.Bytes(n)
		scribbled(one)
		if !bytes.Equal(two, drawnBytes(seed, 1, n)) {
			t.Errorf("two answers of %d bytes share memory", n)
		}
		scribbled(two)
		if !bytes.Equal(seed, some(32)) {
			t.Errorf("an answer of %d bytes shares memory with the seed", n)
		}
		checkNextBytes(t, d, seed, 2, n)
	}
}
