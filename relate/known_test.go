package relate_test

import (
	"testing"

	"vestry/algebra"
	"vestry/api"
	"vestry/relate"
)

// multiple is the base so many times.
func multiple(k api.Scalar) api.Point { return sum(api.Term{K: k, P: algebra.Base()}) }

func part(secret int, n uint64) api.Part {
	return api.Part{Secret: secret, Base: multiple(algebra.Of(n))}
}

// Worked out by a program in another language, from the transcripts' bytes on.
func TestKnownProofs(t *testing.T) {
	for _, c := range []struct {
		s     system
		c     string
		proof []string
	}{
		{
			system{
				label:   "t",
				eqs:     []api.Equation{{Parts: []api.Part{part(0, 1)}}},
				secrets: []api.Scalar{algebra.Of(5)},
				nonces:  []api.Scalar{algebra.Of(77)},
			},
			"cc9a27cbd85f9d39b019ffacfb1141c1d6e8b8377dd49b49f0ac13b0c8ac0c08",
			[]string{"6f5eda3d0719ee6fc4460c1b2d66879c318c9c1672260b70b1606270eb5f3f08"},
		},
		{
			system{
				label:   "two",
				eqs:     []api.Equation{{Parts: []api.Part{part(0, 1), part(1, 7)}}, {Parts: []api.Part{part(2, 11), part(0, 13), part(2, 1)}}, {}},
				secrets: []api.Scalar{algebra.Of(5), minus(api.Scalar{}, algebra.Of(9)), {0: 3, 25: 1}},
				nonces:  []api.Scalar{algebra.Of(1000), {0: 1, 31: 4}, minus(api.Scalar{}, algebra.Of(1))},
			},
			"968ca3c16a7639fa4fbb4492fba22ef45eb2244459faca6b0e5ccc9a4d97ea09",
			[]string{
				"0f4750b1c626e8da0cd270f24d414c86da7bb754bee3f61a48ccfd0584f49401",
				"4906035fdd286944361763ad5f2096e7a9bab59adc32dd357ec3d08e45aec00a",
				"8ca3178481e88e8ea5303b0267173a61860c2461eb5b3f4335b84cbd0bb25707",
			},
		},
	} {
		want := api.Proof{C: bytesOf(c.c)}
		for _, text := range c.proof {
			want.S = append(want.S, bytesOf(text))
		}
		s := settled(c.s)
		if got := s.proof(t); !same(got, want) {
			t.Errorf("%s: Prove = %x, want %x", s.label, got, want)
		}
		if e := relate.Verify(s.label, s.eqs, len(s.secrets), want); e != api.OK {
			t.Errorf("%s: Verify = %v", s.label, e)
		}
	}
}

// The chapter's examples.
func TestExamples(t *testing.T) {
	five, six := []api.Scalar{algebra.Of(5)}, []api.Scalar{algebra.Of(6)}
	nonces := []api.Scalar{algebra.Of(123456789)}
	if _, e := relate.Prove("l", nil, five, nonces); e != api.ErrArg {
		t.Errorf("Prove of no equations: %v", e)
	}
	if _, e := relate.Prove("l", []api.Equation{{Left: multiple(five[0]), Parts: []api.Part{part(1, 1)}}}, five, nonces); e != api.ErrArg {
		t.Errorf("Prove of a part with the secret 1 of one: %v", e)
	}
	eqs := []api.Equation{{Left: multiple(five[0]), Parts: []api.Part{part(0, 1)}}}
	p, e := relate.Prove("l", eqs, five, nonces)
	if e != api.OK || relate.Verify("l", eqs, 1, p) != api.OK {
		t.Errorf("Prove with the secret 5: %x, %v", p, e)
	}
	if _, e := relate.Prove("l", eqs, six, nonces); e != api.ErrProof {
		t.Errorf("Prove with the secret 6: %v", e)
	}
	eqs[0].Left = multiple(six[0])
	if e := relate.Verify("l", eqs, 1, p); e != api.ErrProof {
		t.Errorf("that proof, of Left 6 B: %v", e)
	}
}
