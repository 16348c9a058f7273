package algebra_test

import (
	"encoding/hex"
	"math/big"
	"testing"

	"vestry/algebra"
	"vestry/api"
	"vestry/edwards"
	"vestry/risto"
)

// TestOracle: what the others are held against answers RFC 9496's list.
func TestOracle(t *testing.T) {
	p := identity()
	for n, want := range listed() {
		if got := encoded(p); got != want {
			t.Errorf("%d times the base is encoded as %x, want %x", n, got, want)
		}
		if q := mustDecode(want); encoded(q) != want {
			t.Errorf("%x is decoded to another one", want)
		}
		p = added(p, base())
	}
}

func TestBase(t *testing.T) {
	if got := algebra.Base(); got != listed()[1] || got != encoded(base()) || got != risto.Encode(edwards.Base()) {
		t.Errorf("Base = %x", got)
	}
}

func TestIdentity(t *testing.T) {
	if got := algebra.Identity(); got != (api.Point{}) || got != risto.Encode(edwards.Identity()) {
		t.Errorf("Identity = %x", got)
	}
}

func TestIsPointOfPoints(t *testing.T) {
	l := append(listed(), algebra.Base(), algebra.Identity())
	draw := draws(1)
	for range 30 {
		l = append(l, drawnPoint(draw))
	}
	for _, p := range l {
		if !algebra.IsPoint(p) {
			t.Errorf("IsPoint(%x) is false", p)
		}
	}
}

func TestIsPointOfOthers(t *testing.T) {
	l := wrongPoints()
	for _, p := range listed()[1:] { // what stands for the same element, and is not its encoding
		same := ofBytes(p[:])
		l = append(l, inBytes(new(big.Int).Sub(prime(), same)), inBytes(new(big.Int).Add(prime(), same)), inBytes(new(big.Int).Add(power(255), same)))
	}
	for _, p := range l {
		if algebra.IsPoint(p) {
			t.Errorf("IsPoint(%x) is true", p)
		}
	}
}

// TestIsPointOfDrawnBytes: of even numbers below 2^255 about every fourth is taken.
func TestIsPointOfDrawnBytes(t *testing.T) {
	draw := draws(2)
	var count [2]int
	for range 400 {
		var p api.Point = drawnBytes(draw)
		p[0], p[31] = p[0]&254, p[31]&127
		_, want := decoded(p)
		if got := algebra.IsPoint(p); got != want {
			t.Fatalf("IsPoint(%x) = %v", p, got)
		}
		if want {
			count[1]++
		} else {
			count[0]++
		}
	}
	if count[0] < 50 || count[1] < 50 {
		t.Errorf("how many were none, and points: %v", count)
	}
}

// checkMap holds Map of the bytes against layer 4's, encoded.
func checkMap(t *testing.T, b [64]byte) {
	t.Helper()
	got := algebra.Map(b)
	if got != risto.Encode(risto.Map(b)) {
		t.Errorf("Map(%x) = %x", b, got)
	}
	if !algebra.IsPoint(got) {
		t.Errorf("Map(%x) = %x, which may not be", b, got)
	}
	if p, ok := decoded(got); !ok || encoded(p) != got {
		t.Errorf("Map(%x) = %x, which is no point by the oracle", b, got)
	}
}

func TestMapOfAnyBytes(t *testing.T) {
	var ones [64]byte
	for i := range ones {
		ones[i] = 255
	}
	for _, b := range [][64]byte{{}, {1}, {9}, {63: 1}, {63: 255}, {31: 128}, {32: 1}, ones} {
		checkMap(t, b)
	}
	draw := draws(3)
	for range 60 {
		var b [64]byte
		draw.Read(b[:])
		checkMap(t, b)
	}
}

// TestMapOfTheListed: bytes and their elements as RFC 9496 lists them.
func TestMapOfTheListed(t *testing.T) {
	for _, c := range [][2]string{
		{"5d1be09e3d0c82fc538112490e35701979d99e06ca3e2b5b54bffe8b4dc772c14d98b696a1bbfb5ca32c436cc61c16563790306c79eaca7705668b47dffe5bb6", "3066f82a1a747d45120d1740f14358531a8f04bbffe6a819f86dfe50f44a0a46"},
		{"f116b34b8f17ceb56e8732a60d913dd10cce47a6d53bee9204be8b44f6678b270102a56902e2488c46120e9276cfe54638286b9e4b3cdb470b542d46c2068d38", "f26e5b6f7d362d2d2a94c5d0e7602cb4773c95a2e5c31a64f133189fa76ed61b"},
		{"8422e1bbdaab52938b81fd602effb6f89110e1e57208ad12d9ad767e2e25510c27140775f9337088b982d83d7fcf0b2fa1edffe51952cbe7365e95c86eaf325c", "006ccd2a9e6867e6a2c5cea83d3302cc9de128dd2a9a57dd8ee7b9d7ffe02826"},
		{"edffffffffffffffffffffffffffffffffffffffffffffffffffffffffffffff1200000000000000000000000000000000000000000000000000000000000000", "304282791023b73128d277bdcb5c7746ef2eac08dde9f2983379cb8e5ef0517f"},
	} {
		var b [64]byte
		if n, err := hex.Decode(b[:], []byte(c[0])); err != nil || n != 64 {
			t.Fatal(c[0])
		}
		if got := algebra.Map(b); got != bytesOf(c[1]) {
			t.Errorf("Map(%s) = %x, want %s", c[0], got, c[1])
		}
	}
}
