package siv_test

import (
	"testing"

	"vestry/siv"
)

// What RFC 8452 lists for its keys of 256 bits and nonces; the last one is that of the wrapped counters.
func TestKnownKeys(t *testing.T) {
	for _, c := range []struct{ k, n, first, second string }{
		{"0100000000000000000000000000000000000000000000000000000000000000", "030000000000000000000000", "b5d3c529dfafac43136d2d11be284d7f", "b914f4742be9e1d7a2f84addbf96dec3456e3c6c05ecc157cdbf0700fedad222"},
		{"e66021d5eb8e4f4066d4adb9c33560e4f46e44bb3da0015c94f7088736864200", "e0eaf5284d884a0e77d31646", "e40d26f82774aa27f47b047b608b9585", "7c7c3d9a542cef53dde0e6de9b5800400f82e73ec5f7ee41b7ba8dcb9ba078c3"},
		{"3c535de192eaed3822a2fbbe2ca9dfc88255e14a661b8aa82cc54236093bbc23", "688089e55540db1872504e1c", "cb8c3aa3f8dbaeb4b28a3e86ff6625f8", "02426ce1aa3ab31313b0848469a1b5fc6c9af9602600b195b04ad407026bc06d"},
		{"0000000000000000000000000000000000000000000000000000000000000000", "000000000000000000000000", "dc95c078a24089895275f3d86b4fb868", "779b38d15bffb63d39d6e9ae76a9b2f375d11b0e3a68c422845c7d4690fa594f"},
	} {
		first, second := siv.Keys(key(unhex(t, c.k)), nonce(unhex(t, c.n)))
		if first != block(unhex(t, c.first)) || second != key(unhex(t, c.second)) {
			t.Errorf("Keys of %s and %s are %x and %x, want %s and %s", c.k, c.n, first, second, c.first, c.second)
		}
	}
}

func checkKeys(t *testing.T, k key, n nonce) {
	t.Helper()
	first, second := siv.Keys(k, n)
	wantFirst, wantSecond := twoKeys(k, n)
	if first != wantFirst || second != wantSecond {
		t.Errorf("Keys of %x and %x are %x and %x, want %x and %x", k, n, first, second, wantFirst, wantSecond)
	}
}

func TestKeysOfDrawnOnes(t *testing.T) {
	for seed := range int64(100) {
		k, n := drawnKey(seed)
		checkKeys(t, k, n)
	}
}

func TestKeysOfSingleBits(t *testing.T) {
	for bit := range 256 {
		var k key
		k[bit/8] = 1 << (bit % 8)
		checkKeys(t, k, nonce{})
	}
	for bit := range 96 {
		var n nonce
		n[bit/8] = 1 << (bit % 8)
		checkKeys(t, key{}, n)
	}
}

func TestOneBitMakesUnlikeKeys(t *testing.T) {
	k, n := drawnKey(1)
	firsts, seconds := map[block]int{}, map[key]int{}
	note := func(k key, n nonce) {
		first, second := siv.Keys(k, n)
		firsts[first]++
		seconds[second]++
	}
	note(k, n)
	for bit := range 256 {
		other := k
		other[bit/8] ^= 1 << (bit % 8)
		note(other, n)
	}
	for bit := range 96 {
		other := n
		other[bit/8] ^= 1 << (bit % 8)
		note(k, other)
	}
	if want := 1 + 256 + 96; len(firsts) != want || len(seconds) != want {
		t.Errorf("%d keys and nonces have %d block keys and %d text keys", want, len(firsts), len(seconds))
	}
}
