package sha_test

import (
	"bytes"
	"crypto/sha256"
	"crypto/sha512"
	"encoding/hex"
	"math/rand"
	"strings"
	"testing"

	"vestry/sha"
)

// edges are the lengths at which the filling up turns, of one block and of several.
func edges() []int {
	l := []int{0, 1, 2, 3, 4, 7, 8, 9, 54, 55, 56, 57, 62, 63, 64, 65, 110, 111, 112, 113, 118, 119, 120, 126, 127, 128, 129}
	for _, blocks := range []int{3, 4, 5, 8, 16, 33, 100} {
		for _, block := range []int{64, 128} {
			whole := blocks * block
			l = append(l, whole-block/8-1, whole-block/8, whole-1, whole, whole+1)
		}
	}
	return l
}

// kinds are texts of that length: noughts, bytes ff, a count, and drawn bytes.
func kinds(length int) [][]byte {
	count, drawn := make([]byte, length), make([]byte, length)
	rand.New(rand.NewSource(int64(length))).Read(drawn)
	for i := range count {
		count[i] = byte(i)
	}
	return [][]byte{make([]byte, length), bytes.Repeat([]byte{0xff}, length), count, drawn}
}

// checkSums holds both sums of a text against the library's.
func checkSums(t *testing.T, text []byte) {
	t.Helper()
	if got, want := sha.Sum256(text), sha256.Sum256(text); got != want {
		t.Errorf("Sum256 of %d bytes is %x, want %x", len(text), got, want)
	}
	if got, want := sha.Sum512(text), sha512.Sum512(text); got != want {
		t.Errorf("Sum512 of %d bytes is %x, want %x", len(text), got, want)
	}
}

func TestSumsAtTheEdges(t *testing.T) {
	for _, length := range edges() {
		for _, text := range kinds(length) {
			checkSums(t, text)
		}
	}
}

func TestSumsOfAllShortTexts(t *testing.T) {
	for length := range 400 {
		checkSums(t, kinds(length)[3])
	}
}

func TestSumsOfLongTexts(t *testing.T) {
	for _, length := range []int{1 << 13, 1<<16 - 1, 1 << 21, 1<<21 + 56, 5000011} {
		checkSums(t, kinds(length)[3])
	}
}

func TestKnownSums(t *testing.T) {
	two256 := "abcdbcdecdefdefgefghfghighijhijkijkljklmklmnlmnomnopnopq"
	two512 := "abcdefghbcdefghicdefghijdefghijkefghijklfghijklmghijklmnhijklmnoijklmnopjklmnopqklmnopqrlmnopqrsmnopqrstnopqrstu"
	many := strings.Repeat("a", 1000000)
	for _, c := range []struct{ text, sum256, sum512 string }{
		{"abc", "ba7816bf8f01cfea414140de5dae2223b00361a396177a9cb410ff61f20015ad",
			"ddaf35a193617abacc417349ae20413112e6fa4e89a97ea20a9eeee64b55d39a2192992a274fc1a836ba3c23a3feebbd454d4423643ce80e2a9ac94fa54ca49f"},
		{"", "e3b0c44298fc1c149afbf4c8996fb92427ae41e4649b934ca495991b7852b855",
			"cf83e1357eefb8bdf1542850d66d8007d620e4050b5715dc83f4a921d36ce9ce47d0d13c5d85f2b0ff8318d2877eec2f63b931bd47417a81a538327af927da3e"},
		{two256, "248d6a61d20638b8e5c026930c3e6039a33ce45964ff2167f6ecedd419db06c1", ""},
		{two512, "", "8e959b75dae313da8cf4f72814fc143f8f7779c6eb9f7fa17299aeadb6889018501d289e4900f7e4331b99dec4b5433ac7d329eeb6dd26545e96e55b874be909"},
		{many, "cdc76e5c9914fb9281a1c7e284d73e67f1809a48a497200e046d39ccc7112cd0",
			"e718483d0ce769644e2e42c7bc15b4638e1f98b13b2044285632a803afa973ebde0ff244877ea60a4cb0432ce577c31beb009c5c2c49aa2e4eadb217ad8cc09b"},
	} {
		short, long := sha.Sum256([]byte(c.text)), sha.Sum512([]byte(c.text))
		if c.sum256 != "" && hex.EncodeToString(short[:]) != c.sum256 {
			t.Errorf("Sum256 of %.60q is %x, want %s", c.text, short, c.sum256)
		}
		if c.sum512 != "" && hex.EncodeToString(long[:]) != c.sum512 {
			t.Errorf("Sum512 of %.60q is %x, want %s", c.text, long, c.sum512)
		}
	}
}

func TestNilIsTheEmptyText(t *testing.T) {
	for _, empty := range [][]byte{{}, make([]byte, 0, 200), []byte("abc")[3:]} {
		if sha.Sum256(nil) != sha.Sum256(empty) || sha.Sum512(nil) != sha.Sum512(empty) {
			t.Error("nil and an empty text have unlike sums")
		}
	}
	checkSums(t, nil)
}

func TestTextStaysAsItWas(t *testing.T) {
	for _, length := range edges() {
		for _, text := range kinds(length) {
			room := append(append([]byte{}, text...), bytes.Repeat([]byte{0xa5}, 300)...)
			before := bytes.Clone(room)
			sha.Sum256(room[:length])
			sha.Sum512(room[:length])
			if !bytes.Equal(room, before) {
				t.Errorf("a text of %d bytes, or its spare room, was changed", length)
			}
		}
	}
}

// What the sums hang on is the text alone: not where it lies, what lies around it, or which sums were asked before.
func TestSumsHangOnTheTextAlone(t *testing.T) {
	for _, length := range edges() {
		text := kinds(length)[3]
		short, long := sha.Sum256(text), sha.Sum512(text)
		for _, around := range []byte{0, 0x80, 0xff} {
			for _, ahead := range []int{0, 1, 5, 64} {
				room := bytes.Repeat([]byte{around}, ahead+length+150)
				copy(room[ahead:], text)
				other := room[ahead : ahead+length]
				if sha.Sum256(other) != short || sha.Sum512(other) != long {
					t.Errorf("a text of %d bytes has other sums elsewhere", length)
				}
			}
		}
	}
}

// register says of each sum of a text that no other text had it.
type register struct {
	short map[[32]byte]string
	long  map[[64]byte]string
}

func (r register) add(t *testing.T, text []byte) {
	t.Helper()
	a, b := sha.Sum256(text), sha.Sum512(text)
	if other, ok := r.short[a]; ok && other != string(text) {
		t.Errorf("Sum256 of %x and of %x is one", other, text)
	}
	if other, ok := r.long[b]; ok && other != string(text) {
		t.Errorf("Sum512 of %x and of %x is one", other, text)
	}
	r.short[a], r.long[b] = string(text), string(text)
}

func newRegister() register {
	return register{map[[32]byte]string{}, map[[64]byte]string{}}
}

func TestOneBitMakesUnlikeSums(t *testing.T) {
	for _, length := range []int{1, 3, 55, 56, 63, 64, 65, 111, 112, 127, 128, 129, 200, 256} {
		for _, text := range kinds(length) {
			r := newRegister()
			r.add(t, text)
			for bit := range 8 * length {
				other := bytes.Clone(text)
				other[bit/8] ^= 1 << (bit % 8)
				r.add(t, other)
			}
			if len(r.short) != 8*length+1 || len(r.long) != 8*length+1 {
				t.Errorf("%d bits of a text make %d and %d unlike sums", 8*length, len(r.short), len(r.long))
			}
		}
	}
}

// Texts that begin alike and go on with noughts; one of them looks as the empty text does when it is filled up.
func TestNoughtsMoreMakeUnlikeSums(t *testing.T) {
	for _, first := range [][]byte{{}, {0x80}, []byte("abc"), {0xff}} {
		r := newRegister()
		for more := range 400 {
			r.add(t, append(bytes.Clone(first), make([]byte, more)...))
		}
		if len(r.short) != 400 || len(r.long) != 400 {
			t.Errorf("400 texts have %d and %d unlike sums", len(r.short), len(r.long))
		}
	}
}

// An answer is its own memory: writing into it changes no later one.
func TestSumsAreNew(t *testing.T) {
	a, b := sha.Sum256([]byte("abc")), sha.Sum512([]byte("abc"))
	clear(a[:])
	clear(b[:])
	checkSums(t, []byte("abc"))
}
