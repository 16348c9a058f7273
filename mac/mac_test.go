package mac_test

import (
	"bytes"
	"crypto/hmac"
	"crypto/sha256"
	"crypto/sha512"
	"encoding/hex"
	"math/rand"
	"testing"

	"vestry/mac"
)

// lengths lie at the edges of the blocks and the sums, and many blocks on.
func lengths() []int {
	return []int{0, 1, 2, 4, 20, 31, 32, 33, 55, 56, 62, 63, 64, 65, 66, 96, 111, 112, 126, 127, 128, 129, 130, 191, 192, 193, 256, 1000, 4096}
}

// some are that many drawn bytes, the same ones each time; none of them is a nought.
func some(length int) []byte {
	b := make([]byte, length)
	rand.New(rand.NewSource(int64(length) + 7)).Read(b)
	for i := range b {
		b[i] |= byte(1 << (i % 8))
	}
	return b
}

func library256(key, text []byte) (out [32]byte) {
	h := hmac.New(sha256.New, key)
	h.Write(text)
	h.Sum(out[:0])
	return out
}

func library512(key, text []byte) (out [64]byte) {
	h := hmac.New(sha512.New, key)
	h.Write(text)
	h.Sum(out[:0])
	return out
}

// checkHmacs holds both against the library's, and Extract too.
func checkHmacs(t *testing.T, key, text []byte) {
	t.Helper()
	if got, want := mac.Hmac256(key, text), library256(key, text); got != want {
		t.Errorf("Hmac256 of a key of %d bytes and a text of %d is %x, want %x", len(key), len(text), got, want)
	}
	if got, want := mac.Hmac512(key, text), library512(key, text); got != want {
		t.Errorf("Hmac512 of a key of %d bytes and a text of %d is %x, want %x", len(key), len(text), got, want)
	}
	if got, want := mac.Extract(key, text), library256(key, text); got != want {
		t.Errorf("Extract of a salt of %d bytes and a secret of %d is %x, want %x", len(key), len(text), got, want)
	}
}

func TestHmacsAtTheEdges(t *testing.T) {
	for _, k := range lengths() {
		for _, n := range lengths() {
			checkHmacs(t, some(k), some(n))
			checkHmacs(t, make([]byte, k), bytes.Repeat([]byte{0xff}, n))
			checkHmacs(t, bytes.Repeat([]byte{0xff}, k), make([]byte, n))
		}
	}
}

func TestHmacsOfAllShortKeys(t *testing.T) {
	for k := range 300 {
		checkHmacs(t, some(k), []byte("what do ya want for nothing?"))
		checkHmacs(t, []byte("Jefe"), some(k))
	}
}

func TestHmacsOfLongKeysAndTexts(t *testing.T) {
	long := some(1<<20 + 3)
	checkHmacs(t, long, nil)
	checkHmacs(t, nil, long)
	checkHmacs(t, long[5:], long)
}

// Keys that are made of the masks' own bytes leave a block of noughts on one side.
func TestHmacsOfKeysLikeTheMasks(t *testing.T) {
	for _, mask := range []byte{0x36, 0x5c, 0x36 ^ 0x5c} {
		for _, k := range []int{63, 64, 65, 127, 128, 129} {
			checkHmacs(t, bytes.Repeat([]byte{mask}, k), some(k))
		}
	}
}

// What RFC 4231 lists.
func TestKnownHmacs(t *testing.T) {
	larger := bytes.Repeat([]byte{0xaa}, 131)
	count := make([]byte, 25)
	for i := range count {
		count[i] = byte(i + 1)
	}
	for _, c := range []struct {
		key, text    []byte
		short, large string
	}{
		{bytes.Repeat([]byte{0x0b}, 20), []byte("Hi There"),
			"b0344c61d8db38535ca8afceaf0bf12b881dc200c9833da726e9376c2e32cff7",
			"87aa7cdea5ef619d4ff0b4241a1d6cb02379f4e2ce4ec2787ad0b30545e17cdedaa833b7d6b8a702038b274eaea3f4e4be9d914eeb61f1702e696c203a126854"},
		{[]byte("Jefe"), []byte("what do ya want for nothing?"),
			"5bdcc146bf60754e6a042426089575c75a003f089d2739839dec58b964ec3843",
			"164b7a7bfcf819e2e395fbe73b56e0a387bd64222e831fd610270cd7ea2505549758bf75c05a994a6d034f65f8f0e6fdcaeab1a34d4a6b4b636e070a38bce737"},
		{bytes.Repeat([]byte{0xaa}, 20), bytes.Repeat([]byte{0xdd}, 50),
			"773ea91e36800e46854db8ebd09181a72959098b3ef8c122d9635514ced565fe",
			"fa73b0089d56a284efb0f0756c890be9b1b5dbdd8ee81a3655f83e33b2279d39bf3e848279a722c806b485a47e67c807b946a337bee8942674278859e13292fb"},
		{count, bytes.Repeat([]byte{0xcd}, 50),
			"82558a389a443c0ea4cc819899f2083a85f0faa3e578f8077a2e3ff46729665b",
			"b0ba465637458c6990e5a8c5f61d4af7e576d97ff94b872de76f8050361ee3dba91ca5c11aa25eb4d679275cc5788063a5f19741120c4f2de2adebeb10a298dd"},
		{larger, []byte("Test Using Larger Than Block-Size Key - Hash Key First"),
			"60e431591ee0b67f0d8a26aacbf5b77f8e0bc6213728c5140546040f0ee37f54",
			"80b24263c7c1a3ebb71493c1dd7be8b49b46d1f41b4aeec1121b013783f8f3526b56d037e05f2598bd0fd2215d6a1e5295e64f73f63f0aec8b915a985d786598"},
	} {
		short, large := mac.Hmac256(c.key, c.text), mac.Hmac512(c.key, c.text)
		if hex.EncodeToString(short[:]) != c.short {
			t.Errorf("Hmac256 of %x and %q is %x, want %s", c.key, c.text, short, c.short)
		}
		if hex.EncodeToString(large[:]) != c.large {
			t.Errorf("Hmac512 of %x and %q is %x, want %s", c.key, c.text, large, c.large)
		}
	}
}

func TestNilIsEmpty(t *testing.T) {
	checkHmacs(t, nil, nil)
	for _, empty := range [][]byte{{}, make([]byte, 0, 200), []byte("abc")[3:]} {
		for _, b := range [][]byte{nil, empty, some(20), some(200)} {
			if mac.Hmac256(nil, b) != mac.Hmac256(empty, b) || mac.Hmac256(b, nil) != mac.Hmac256(b, empty) {
				t.Errorf("Hmac256 with nil and with an empty list differ, beside %d bytes", len(b))
			}
			if mac.Hmac512(nil, b) != mac.Hmac512(empty, b) || mac.Hmac512(b, nil) != mac.Hmac512(b, empty) {
				t.Errorf("Hmac512 with nil and with an empty list differ, beside %d bytes", len(b))
			}
			if mac.Extract(nil, b) != mac.Extract(empty, b) || mac.Extract(b, nil) != mac.Extract(b, empty) {
				t.Errorf("Extract with nil and with an empty list differ, beside %d bytes", len(b))
			}
		}
	}
}

// Extract with no salt: as RFC 5869 says, as with 32 noughts.
func TestExtractWithoutSalt(t *testing.T) {
	for _, n := range lengths() {
		if mac.Extract(nil, some(n)) != mac.Extract(make([]byte, 32), some(n)) {
			t.Errorf("a secret of %d bytes: no salt and one of 32 noughts differ", n)
		}
	}
}

func TestNoughtsBehindAKey(t *testing.T) {
	text := some(70)
	for k := range 129 {
		key := some(k)
		for more := range 129 - k {
			longer := append(bytes.Clone(key), make([]byte, more)...)
			if len(longer) <= 64 && mac.Hmac256(longer, text) != mac.Hmac256(key, text) {
				t.Errorf("Hmac256: %d noughts behind a key of %d bytes make another one", more, k)
			}
			if mac.Hmac512(longer, text) != mac.Hmac512(key, text) {
				t.Errorf("Hmac512: %d noughts behind a key of %d bytes make another one", more, k)
			}
		}
	}
}

func TestNoughtsPastTheBlock(t *testing.T) {
	for _, k := range []int{0, 1, 40, 64} {
		longer := append(some(k), make([]byte, 65-k)...)
		if mac.Hmac256(longer, nil) == mac.Hmac256(some(k), nil) {
			t.Errorf("Hmac256: a key of %d bytes and the same up to 65 are one", k)
		}
	}
	for _, k := range []int{0, 1, 65, 128} {
		longer := append(some(k), make([]byte, 129-k)...)
		if mac.Hmac512(longer, nil) == mac.Hmac512(some(k), nil) {
			t.Errorf("Hmac512: a key of %d bytes and the same up to 129 are one", k)
		}
	}
}

// A key of more than a block counts as its sum; one of a block does not.
func TestLongKeysCountAsTheirSum(t *testing.T) {
	text := some(30)
	for _, k := range []int{32, 33, 63, 64, 65, 66, 100, 127, 128, 129, 130, 300, 5000} {
		short, long := sha256.Sum256(some(k)), sha512.Sum512(some(k))
		if got := mac.Hmac256(some(k), text) == mac.Hmac256(short[:], text); got != (k > 64) {
			t.Errorf("Hmac256: a key of %d bytes counts as its sum: %v", k, got)
		}
		if got := mac.Hmac512(some(k), text) == mac.Hmac512(long[:], text); got != (k > 128) {
			t.Errorf("Hmac512: a key of %d bytes counts as its sum: %v", k, got)
		}
	}
}

// guarded lays bytes in the midst of others and tells whether all of them, and the room behind, are as they were.
func guarded(b []byte) (inside []byte, unchanged func() bool) {
	room := append(bytes.Repeat([]byte{0xa5}, 10), b...)
	room = append(room, bytes.Repeat([]byte{0x5a}, 300)...)
	before := bytes.Clone(room)
	return room[10 : 10+len(b)], func() bool { return bytes.Equal(room, before) }
}

func TestHmacsLeaveArgumentsAsTheyWere(t *testing.T) {
	for _, k := range lengths() {
		for _, n := range lengths() {
			key, sameKey := guarded(some(k))
			text, sameText := guarded(some(n))
			checkHmacs(t, key, text)
			if !sameKey() || !sameText() {
				t.Errorf("a key of %d bytes or a text of %d, or its room, was changed", k, n)
			}
		}
	}
}

// Key and text may be the same memory, or lie over each other.
func TestHmacsOfSharedMemory(t *testing.T) {
	b := some(400)
	for _, k := range []int{0, 10, 64, 65, 128, 129, 400} {
		for _, from := range []int{0, 5, 64, 200} {
			checkHmacs(t, b[:k], b[from:])
			checkHmacs(t, b[from:], b[:k])
		}
	}
	if !bytes.Equal(b, some(400)) {
		t.Error("the shared memory was changed")
	}
}

func TestHmacsAreNew(t *testing.T) {
	key, text := some(20), some(30)
	a, b, c := mac.Hmac256(key, text), mac.Hmac512(key, text), mac.Extract(key, text)
	clear(a[:])
	clear(b[:])
	clear(c[:])
	checkHmacs(t, key, text)
}
