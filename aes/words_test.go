package aes_test

import (
	"bytes"
	"encoding/hex"
	"math/rand"
	"strings"
	"testing"

	"vestry/aes"
)

type (
	key   = [32]byte
	block = [16]byte
	word  = [4]byte
)

// unhex is the bytes that are written, whatever spaces are between them.
func unhex(t *testing.T, text string) []byte {
	t.Helper()
	b, err := hex.DecodeString(strings.Join(strings.Fields(text), ""))
	if err != nil {
		t.Fatal(err)
	}
	return b
}

func full(b byte) key { return key(bytes.Repeat([]byte{b}, 32)) }

// counted is the key of the standard's examples of enciphering.
func counted() key {
	var k key
	for i := range k {
		k[i] = byte(i)
	}
	return k
}

// spread is the key of the standard's example of words, and of the modes' examples.
func spread(t *testing.T) key {
	t.Helper()
	return key(unhex(t, "603deb10 15ca71be 2b73aef0 857d7781 1f352c07 3b6108d7 2d9810a3 0914dff4"))
}

func drawnKeys(n int) []key {
	r := rand.New(rand.NewSource(8))
	l := make([]key, n)
	for i := range l {
		r.Read(l[i][:])
	}
	return l
}

// keys are the known ones, all with one bit and all but one bit, and drawn ones.
func keys(t *testing.T) []key {
	t.Helper()
	l := []key{full(0), full(0xff), full(1), full(0x52), full(0x63), full(0x80), counted(), spread(t)}
	for bit := range 256 {
		one, allBut := full(0), full(0xff)
		one[bit/8] ^= 1 << (bit % 8)
		allBut[bit/8] ^= 1 << (bit % 8)
		l = append(l, one, allBut)
	}
	return append(l, drawnKeys(300)...)
}

// changes tells, from substitutes that the tests made, what is added to the word i - 8.
type changes struct{ subs [256]byte }

func (c changes) of(w word, i int) word {
	switch {
	case i%8 == 0:
		two := byte(1)
		for range i/8 - 1 {
			two = product(two, 2)
		}
		return word{c.subs[w[1]] ^ two, c.subs[w[2]], c.subs[w[3]], c.subs[w[0]]}
	case (i-4)%8 == 0:
		return word{c.subs[w[0]], c.subs[w[1]], c.subs[w[2]], c.subs[w[3]]}
	}
	return w
}

// checkWords holds each of the words against the ones ahead of it.
func checkWords(t *testing.T, c changes, k key) {
	t.Helper()
	w := aes.Words(k)
	for i := range w {
		var want word
		if i < 8 {
			copy(want[:], k[4*i:])
		} else {
			change := c.of(w[i-1], i)
			for p := range want {
				want[p] = w[i-8][p] ^ change[p]
			}
		}
		if w[i] != want {
			t.Errorf("the word %d of the key %x is %x, want %x", i, k, w[i], want)
		}
	}
}

func TestWords(t *testing.T) {
	c := changes{substitutes(t)}
	for _, k := range keys(t) {
		checkWords(t, c, k)
	}
}

func checkKnownWords(t *testing.T, k key, text string) {
	t.Helper()
	var got []byte
	for _, w := range aes.Words(k) {
		got = append(got, w[:]...)
	}
	want := unhex(t, text)
	if len(want) != 240 {
		t.Fatalf("the list of the key %x has %d bytes", k, len(want))
	}
	if !bytes.Equal(got, want) {
		t.Errorf("the words of %x are %x, want %x", k, got, want)
	}
}

// What FIPS 197 lists for this key.
func TestKnownWordsOfTheStandard(t *testing.T) {
	checkKnownWords(t, spread(t), `
		603deb10 15ca71be 2b73aef0 857d7781 1f352c07 3b6108d7 2d9810a3 0914dff4
		9ba35411 8e6925af a51a8b5f 2067fcde a8b09c1a 93d194cd be49846e b75d5b9a
		d59aecb8 5bf3c917 fee94248 de8ebe96 b5a9328a 2678a647 98312229 2f6c79b3
		812c81ad dadf48ba 24360af2 fab8b464 98c5bfc9 bebd198e 268c3ba7 09e04214
		68007bac b2df3316 96e939e4 6c518d80 c814e204 76a9fb8a 5025c02d 59c58239
		de136967 6ccc5a71 fa256395 9674ee15 5886ca5d 2e2f31d7 7e0af1fa 27cf73c3
		749c47ab 18501dda e2757e4f 7401905a cafaaae3 e4d59b34 9adf6ace bd10190d
		fe4890d1 e6188d0b 046df344 706c631e`)
}

func TestKnownWordsOfTheCountedKey(t *testing.T) {
	checkKnownWords(t, counted(), `
		00010203 04050607 08090a0b 0c0d0e0f 10111213 14151617 18191a1b 1c1d1e1f
		a573c29f a176c498 a97fce93 a572c09c 1651a8cd 0244beda 1a5da4c1 0640bade
		ae87dff0 0ff11b68 a68ed5fb 03fc1567 6de1f148 6fa54f92 75f8eb53 73b8518d
		c656827f c9a79917 6f294cec 6cd5598b 3de23a75 524775e7 27bf9eb4 5407cf39
		0bdc905f c27b0948 ad5245a4 c1871c2f 45f5a660 17b2d387 300d4d33 640a820a
		7ccff71c beb4fe54 13e6bbf0 d261a7df f01afafe e7a82979 d7a5644a b3afe640
		2541fe71 9bf50025 8813bbd5 5a721c0a 4e5a6699 a9f24fe0 7e572baa cdf8cdea
		24fc79cc bf0979e9 371ac23c 6d68de36`)
}

func TestKnownWordsOfNoughts(t *testing.T) {
	checkKnownWords(t, full(0), `
		00000000 00000000 00000000 00000000 00000000 00000000 00000000 00000000
		62636363 62636363 62636363 62636363 aafbfbfb aafbfbfb aafbfbfb aafbfbfb
		6f6c6ccf 0d0f0fac 6f6c6ccf 0d0f0fac 7d8d8d6a d7767691 7d8d8d6a d7767691
		5354edc1 5e5be26d 31378ea2 3c38810e 968a81c1 41fcf750 3c717a3a eb070cab
		9eaa8f28 c0f16d45 f1c6e3e7 cdfe62e9 2b312bdf 6acddc8f 56bca6b5 bdbbaa1e
		6406fd52 a4f79017 553173f0 98cf1119 6dbba90b 07767584 51cad331 ec71792f
		e7b0e89c 4347788b 16760b7b 8eb91a62 74ed0ba1 739b7e25 2251ad14 ce20d43b
		10f80a17 53bf729c 45c979e7 cb706385`)
}

func TestKnownWordsOfFullBytes(t *testing.T) {
	checkKnownWords(t, full(0xff), `
		ffffffff ffffffff ffffffff ffffffff ffffffff ffffffff ffffffff ffffffff
		e8e9e9e9 17161616 e8e9e9e9 17161616 0fb8b8b8 f0474747 0fb8b8b8 f0474747
		4a494965 5d5f5f73 b5b6b69a a2a0a08c 355858dc c51f1f9b caa7a723 3ae0e064
		afa80ae5 f2f75596 4741e30c e5e14380 eca04211 29bf5d8a e318faa9 d9f81acd
		e60ab7d0 14fde246 53bc014a b65d42ca a2ec6e65 8b5333ef 684bc946 b1b3d38b
		9b6c8a18 8f91685e dc2d6914 6a702bde a0bd9f78 2beeac97 43a565d1 f216b65a
		fc223491 73b35ccf af9e35db c5ee1e05 0695ed13 2d7b4184 6ede2455 9cc8920f
		546d424f 27de1e80 88402b5b 4dae355e`)
}

// The words at the edges: the first that is changed each way, the last of each way, and those around them.
func TestWordsAtTheEdges(t *testing.T) {
	w := aes.Words(full(0))
	for i, want := range map[int]word{
		7:  {0, 0, 0, 0},             // the key's last one
		8:  {0x62, 0x63, 0x63, 0x63}, // turned, substituted, and 1 added
		9:  {0x62, 0x63, 0x63, 0x63}, // as it is
		12: {0xaa, 0xfb, 0xfb, 0xfb}, // substituted
		13: {0xaa, 0xfb, 0xfb, 0xfb}, // as it is
		16: {0x6f, 0x6c, 0x6c, 0xcf}, // turned, and 2 added
		56: {0x10, 0xf8, 0x0a, 0x17}, // turned, and 40 added
		59: {0xcb, 0x70, 0x63, 0x85},
	} {
		if w[i] != want {
			t.Errorf("the word %d of the key of noughts is %x, want %x", i, w[i], want)
		}
	}
}

func TestUnlikeKeysHaveUnlikeWords(t *testing.T) {
	all := keys(t)
	seen := map[[60]word]key{}
	for _, k := range all {
		w := aes.Words(k)
		if other, ok := seen[w]; ok {
			t.Errorf("the words of %x and of %x are the same", other, k)
		}
		seen[w] = k
	}
	if len(seen) != len(all) {
		t.Errorf("%d keys have %d lists of words", len(all), len(seen))
	}
}

func TestWordsLeaveTheKeyAsItWas(t *testing.T) {
	for _, k := range keys(t) {
		before := k
		first := aes.Words(k)
		kept := first
		for i := range first {
			clear(first[i][:])
		}
		if k != before {
			t.Errorf("the key %x has become %x", before, k)
		}
		if aes.Words(k) != kept {
			t.Errorf("the words of %x are others when they are asked again", k)
		}
	}
}
