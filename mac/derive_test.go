package mac_test

import (
	"bytes"
	"crypto/hkdf"
	"crypto/sha256"
	"encoding/hex"
	"math"
	"testing"

	"vestry/api"
	"vestry/mac"
)

// libraryKey takes its arguments in the order of Derive.
func libraryKey(salt, secret, info []byte, n int) ([]byte, error) {
	return hkdf.Key(sha256.New, secret, salt, string(info), n)
}

func libraryExpand(key, info []byte, n int) ([]byte, error) {
	return hkdf.Expand(sha256.New, key, string(info), n)
}

func checkExpand(t *testing.T, key, info []byte, n int) {
	t.Helper()
	want, err := libraryExpand(key, info, n)
	if err != nil {
		t.Fatal(err)
	}
	got, e := mac.Expand(key, info, n)
	if e != api.OK || len(got) != n || !bytes.Equal(got, want) {
		t.Errorf("Expand of a key of %d bytes and %d of info into %d is %.40x.. (%d bytes), %v, want %.40x..", len(key), len(info), n, got, len(got), e, want)
	}
}

func checkDerive(t *testing.T, salt, secret, info []byte, n int) {
	t.Helper()
	want, err := libraryKey(salt, secret, info, n)
	if err != nil {
		t.Fatal(err)
	}
	got, e := mac.Derive(salt, secret, info, n)
	if e != api.OK || len(got) != n || !bytes.Equal(got, want) {
		t.Errorf("Derive of %d, %d and %d bytes into %d is %.40x.. (%d bytes), %v, want %.40x..", len(salt), len(secret), len(info), n, got, len(got), e, want)
	}
}

func taken() []int {
	return []int{0, 1, 2, 16, 31, 32, 33, 63, 64, 65, 96, 1000, 4096, 8127, 8128, 8129, 8159, 8160}
}

func TestExpandAndDeriveAtTheEdges(t *testing.T) {
	for _, n := range taken() {
		for _, k := range []int{0, 1, 32, 63, 64, 65, 200} {
			for _, info := range []int{0, 1, 31, 32, 100} {
				checkExpand(t, some(k), some(info), n)
				checkDerive(t, some(k), some(40), some(info), n)
				checkDerive(t, some(13), some(k), some(info), n)
			}
		}
	}
}

func TestExpandIntoAllLengths(t *testing.T) {
	want, _ := libraryExpand(some(32), some(10), api.MaxDerived)
	for n := 0; n <= api.MaxDerived; n += 7 {
		got, e := mac.Expand(some(32), some(10), n)
		if e != api.OK || !bytes.Equal(got, want[:n]) {
			t.Fatalf("Expand into %d: %v", n, e)
		}
	}
}

func TestFewerBytesAreTheBeginningOfMore(t *testing.T) {
	for _, key := range [][]byte{nil, some(20), some(100)} {
		most, e := mac.Expand(key, some(5), api.MaxDerived)
		all, f := mac.Derive(key, some(9), some(5), api.MaxDerived)
		if e != api.OK || f != api.OK || len(most) != 8160 || len(all) != 8160 {
			t.Fatalf("into 8160: %d bytes, %v; %d bytes, %v", len(most), e, len(all), f)
		}
		for _, n := range taken() {
			fewer, e := mac.Expand(key, some(5), n)
			if e != api.OK || !bytes.Equal(fewer, most[:n]) {
				t.Errorf("Expand into %d is no beginning of that into 8160: %v", n, e)
			}
			fewer, e = mac.Derive(key, some(9), some(5), n)
			if e != api.OK || !bytes.Equal(fewer, all[:n]) {
				t.Errorf("Derive into %d is no beginning of that into 8160: %v", n, e)
			}
		}
	}
}

func TestLengthsThatMayNotBe(t *testing.T) {
	for _, c := range []struct {
		n    int
		want api.Errno
	}{
		{-1, api.ErrArg}, {-2, api.ErrArg}, {-32, api.ErrArg}, {math.MinInt, api.ErrArg}, {math.MinInt32, api.ErrArg}, {-8160, api.ErrArg}, {-8161, api.ErrArg},
		{8161, api.ErrLong}, {8192, api.ErrLong}, {math.MaxInt, api.ErrLong}, {math.MaxInt32, api.ErrLong}, {1 << 32, api.ErrLong}, {1<<32 + 5, api.ErrLong},
	} {
		for _, b := range [][]byte{nil, some(10), some(100)} {
			if got, e := mac.Expand(b, b, c.n); e != c.want || len(got) != 0 {
				t.Errorf("Expand into %d: %d bytes, %v, want none, %v", c.n, len(got), e, c.want)
			}
			if got, e := mac.Derive(b, b, b, c.n); e != c.want || len(got) != 0 {
				t.Errorf("Derive into %d: %d bytes, %v, want none, %v", c.n, len(got), e, c.want)
			}
		}
	}
	for _, n := range []int{0, api.MaxDerived} {
		if got, e := mac.Expand(nil, nil, n); e != api.OK || len(got) != n {
			t.Errorf("Expand into %d: %d bytes, %v", n, len(got), e)
		}
		if got, e := mac.Derive(nil, nil, nil, n); e != api.OK || len(got) != n {
			t.Errorf("Derive into %d: %d bytes, %v", n, len(got), e)
		}
	}
}

// What RFC 5869 lists for SHA-256.
func TestKnownDerived(t *testing.T) {
	from := func(first, length int) []byte {
		b := make([]byte, length)
		for i := range b {
			b[i] = byte(first + i)
		}
		return b
	}
	ikm := bytes.Repeat([]byte{0x0b}, 22)
	for _, c := range []struct {
		salt, secret, info []byte
		n                  int
		key, out           string
	}{
		{from(0, 13), ikm, from(0xf0, 10), 42,
			"077709362c2e32df0ddc3f0dc47bba6390b6c73bb50f9c3122ec844ad7c2b3e5",
			"3cb25f25faacd57a90434f64d0362f2a2d2d0a90cf1a5a4c5db02d56ecc4c5bf34007208d5b887185865"},
		{from(0x60, 80), from(0, 80), from(0xb0, 80), 82,
			"06a6b88c5853361a06104c9ceb35b45cef760014904671014a193f40c15fc244",
			"b11e398dc80327a1c8e7f78c596a49344f012eda2d4efad8a050cc4c19afa97c59045a99cac7827271cb41c65e590e09da3275600c2f09b8367793a9aca3db71cc30c58179ec3e87c14c01d5c1f3434f1d87"},
		{nil, ikm, nil, 42,
			"19ef24a32c717b167f33a91d6f648bdf96596776afdb6377ac434c1c293ccb04",
			"8da4e775a563c18f715f802a063c5a31b8a11f5c5ee1879ec3454e5f3c738d2d9d201395faa4b61a96c8"},
	} {
		key := mac.Extract(c.salt, c.secret)
		if hex.EncodeToString(key[:]) != c.key {
			t.Errorf("Extract of %x and %x is %x, want %s", c.salt, c.secret, key, c.key)
		}
		out, e := mac.Expand(key[:], c.info, c.n)
		if hex.EncodeToString(out) != c.out || e != api.OK {
			t.Errorf("Expand of %x and %x is %x, %v, want %s", key, c.info, out, e, c.out)
		}
		out, e = mac.Derive(c.salt, c.secret, c.info, c.n)
		if hex.EncodeToString(out) != c.out || e != api.OK {
			t.Errorf("Derive of %x, %x and %x is %x, %v, want %s", c.salt, c.secret, c.info, out, e, c.out)
		}
	}
}

func TestDeriveIsExpandOfExtract(t *testing.T) {
	for _, n := range []int{math.MinInt, -1, 0, 1, 33, 8160, 8161, math.MaxInt} {
		key := mac.Extract(some(70), some(50))
		want, f := mac.Expand(key[:], some(12), n)
		got, e := mac.Derive(some(70), some(50), some(12), n)
		if e != f || !bytes.Equal(got, want) {
			t.Errorf("into %d: Derive says %v, Expand of Extract %v, or other bytes", n, e, f)
		}
	}
}

func TestNilIsEmptyForExpand(t *testing.T) {
	for _, empty := range [][]byte{{}, make([]byte, 0, 200), []byte("abc")[3:]} {
		a, _ := mac.Expand(nil, nil, 70)
		b, _ := mac.Expand(empty, empty, 70)
		c, _ := mac.Derive(nil, nil, nil, 70)
		d, _ := mac.Derive(empty, empty, empty, 70)
		if !bytes.Equal(a, b) || !bytes.Equal(c, d) {
			t.Error("nil and an empty list make unlike bytes")
		}
	}
}

func TestExpandNoughtsBehindAKey(t *testing.T) {
	for _, k := range []int{0, 1, 32, 63, 64} {
		short, _ := mac.Expand(some(k), some(3), 100)
		full, _ := mac.Expand(append(some(k), make([]byte, 64-k)...), some(3), 100)
		past, _ := mac.Expand(append(some(k), make([]byte, 65-k)...), some(3), 100)
		if !bytes.Equal(short, full) || bytes.Equal(short, past) {
			t.Errorf("a key of %d bytes, and noughts behind it", k)
		}
	}
	sum := sha256.Sum256(some(65))
	a, _ := mac.Expand(some(65), nil, 100)
	b, _ := mac.Expand(sum[:], nil, 100)
	if !bytes.Equal(a, b) {
		t.Error("Expand: a key of 65 bytes does not count as its sum")
	}
}

func TestExpandLeavesArgumentsAsTheyWere(t *testing.T) {
	for _, k := range []int{0, 1, 32, 63, 64, 65, 300} {
		for _, n := range []int{-1, 0, 1, 32, 33, 300, 8160, 8161} {
			a, sameA := guarded(some(k))
			b, sameB := guarded(some(k + 1))
			c, sameC := guarded(some(k + 2))
			mac.Expand(a, b, n)
			mac.Derive(a, b, c, n)
			if !sameA() || !sameB() || !sameC() {
				t.Errorf("into %d: an argument of some %d bytes, or its room, was changed", n, k)
			}
		}
	}
}

// scribbled overwrites a list up to its capacity.
func scribbled(b []byte) {
	b = b[:cap(b)]
	for i := range b {
		b[i] ^= 0xff
	}
}

func TestExpandAnswersNewMemory(t *testing.T) {
	for _, n := range []int{1, 31, 32, 33, 64, 8160} {
		key, sameKey := guarded(some(64))
		info, sameInfo := guarded(some(32))
		salt, sameSalt := guarded(some(32))
		a, _ := mac.Expand(key, info, n)
		b, _ := mac.Expand(key, info, n)
		c, _ := mac.Derive(salt, key, info, n)
		d, _ := mac.Derive(salt, key, info, n)
		wantB, wantD := bytes.Clone(b), bytes.Clone(d)
		scribbled(a)
		scribbled(c)
		if !sameKey() || !sameInfo() || !sameSalt() {
			t.Errorf("into %d: the answer shares memory with an argument", n)
		}
		if !bytes.Equal(b, wantB) || !bytes.Equal(d, wantD) {
			t.Errorf("into %d: two answers share memory", n)
		}
		checkExpand(t, key, info, n)
		checkDerive(t, salt, key, info, n)
	}
}

// The arguments may be one memory.
func TestExpandOfSharedMemory(t *testing.T) {
	b := some(200)
	checkExpand(t, b, b, 100)
	checkExpand(t, b[:32], b[16:], 100)
	checkDerive(t, b[:60], b[30:90], b[60:], 100)
	if !bytes.Equal(b, some(200)) {
		t.Error("the shared memory was changed")
	}
}

// A long key is summed once, not anew for each 32 bytes.
func TestExpandOfALongKey(t *testing.T) {
	checkExpand(t, some(1<<22), some(3), api.MaxDerived)
	checkDerive(t, some(1<<20), some(1<<20), some(1<<10), api.MaxDerived)
}
