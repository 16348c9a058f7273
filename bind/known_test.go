package bind_test

import (
	"encoding/hex"
	"slices"
	"testing"

	"vestry/algebra"
	"vestry/bind"
)

func unhex(t *testing.T, text string) []byte {
	t.Helper()
	b, err := hex.DecodeString(text)
	if err != nil {
		t.Fatal(err)
	}
	return b
}

// Written out by hand, and worked out by a program in another language; of the point, what is mapped to it.
func TestKnownQuestions(t *testing.T) {
	for _, c := range []struct {
		s                                *bind.Script
		transcript, scalar, point, bytes string
	}{
		{bind.New("a").Add("b", []byte("c")), "0000000161" + "01" + "0000000162" + "0000000163",
			"13b3ccbffa7ec92d12243731bd6b4d0d991b980080c55a7197609a53d5b30c0f",
			"5154c4568a085887559d2428260156f4f99a20ac5f1c58e1a0844761996c43120509a9851171e5194c7af823be8b0a65a4f6acf6a30c6de5ff2ae5ed0204fb96",
			"f3a39d03675ff031908884e31b08c5a0e9d827aa75ccbc3cb11a0019f9bb7d34d2b4af099553ade4"},
		{bind.New("a").Add("bc", nil), "0000000161" + "01" + "000000026263" + "00000000",
			"3ee2b14148149c1ecd323d55ba8021223ed9798fe22742619b4b75b349019d07",
			"de014fcfa49f5e61ae073ffd333fa69e60de41b5931125429ca0cbc12c65eac9c6902ac41a3c2ccb6d6d7f22233f86a9bafec52f8372f8a0217f085b88c53f5e",
			"3987700101300ac04718a259ae387fa12fc60bbd64a27da0bf1720ad0e40691f7024f9e9b8c3625f"},
	} {
		checkAll(t, "written out by hand", c.s, unhex(t, c.transcript))
		if k := c.s.Scalar("x"); hex.EncodeToString(k[:]) != c.scalar {
			t.Errorf("Scalar(x) is %x, want %s", k, c.scalar)
		}
		if p := c.s.Point("x"); p != algebra.Map([64]byte(unhex(t, c.point))) {
			t.Errorf("Point(x) is %x", p)
		}
		if b := c.s.Bytes("x", 40); hex.EncodeToString(b) != c.bytes {
			t.Errorf("Bytes(x, 40) are %x, want %s", b, c.bytes)
		}
	}
}

func TestKnownDraws(t *testing.T) {
	draws := []struct{ scalar, bytes string }{
		{"8c2b0ebd113225ba7f994701471d5ffce90597d1effa44705d93b43d70f7b30c", "3f14556bc9f8156c8a4949c5ead6103205d7c9e6990cab1e446aecd2c9bbff3033e3a12149d39191"},
		{"f59642fd9f751d4ce8d05299d6ef54bcb2b732b7c2670abf291737daa68b9e0e", "ef3b27d9ab675e4c491e2cee526cc71fd21880b2b332fb776199061eb8c50355c7a82f64f2b735f2"},
		{"bd860ff25884fd1993361ce46952cb98971140171cd1be433ad4e0d75fcd1a05", "a523ed98c48a7463fe2efc33079106e8b5938fbb23c3007effb8a89efbf0771bbdcaa0dfda9fc037"},
	}
	scalars, texts := bind.FromSeed([]byte("s")), bind.FromSeed([]byte("s"))
	for i, c := range draws {
		if k := scalars.Scalar(); hex.EncodeToString(k[:]) != c.scalar {
			t.Errorf("scalar %d is %x, want %s", i, k, c.scalar)
		}
		if b := texts.Bytes(40); hex.EncodeToString(b) != c.bytes {
			t.Errorf("bytes %d are %x, want %s", i, b, c.bytes)
		}
	}
}

// The chapter's examples.
func TestExamples(t *testing.T) {
	a, b := bind.New("a").Add("b", []byte("c")).Scalar("x"), bind.New("a").Add("bc", nil).Scalar("x")
	if a == b {
		t.Error("the same question of unlike transcripts has one answer")
	}
	if a != algebra.Reduce(askedOf(written("a", item{"b", []byte("c")}), 2, "x")) || b != algebra.Reduce(askedOf(written("a", item{"bc", nil}), 2, "x")) {
		t.Error("a question is not of its transcript")
	}
	if len(bind.New("a").Bytes("x", 8161)) != 0 || len(bind.New("a").Bytes("x", 0)) != 0 {
		t.Error("Bytes of 8161, or of 0, are some")
	}
	seed := []byte("seed")
	d := bind.FromSeed(seed)
	if d.Scalar() != scalarOf(seed, 0) || d.Scalar() != scalarOf(seed, 1) {
		t.Error("two draws are not of the counts 0 and 1")
	}
	d = bind.FromSeed(seed)
	if !slices.Equal(d.Bytes(9), drawnBytes(seed, 0, 9)) || !slices.Equal(d.Bytes(9), drawnBytes(seed, 1, 9)) {
		t.Error("two draws of bytes are not of the counts 0 and 1")
	}
}
