package relate_test

import (
	"math/rand"
	"slices"
	"testing"

	"vestry/algebra"
	"vestry/api"
)

// pairs is a system of that many pairs of secrets, of which each one's second point is t times its first, in each equation; so other secrets meet it too: as much more as t d of the first one, and d less of the second. (And of the last secret any.)
func pairs(equations, n int) (system, []api.Scalar) {
	draw := rand.New(rand.NewSource(int64(100*equations + n)))
	s := system{label: "pairs", secrets: drawnScalars(draw, 2*n+1), nonces: drawnScalars(draw, 2*n+1)}
	ts := drawnScalars(draw, n)
	for range equations {
		var q api.Equation
		for i, t := range ts {
			p := drawnPoint(draw)
			q.Parts = append(q.Parts, api.Part{Secret: 2 * i, Base: p}, api.Part{Secret: 2*i + 1, Base: sum(api.Term{K: t, P: p})})
		}
		s.eqs = append(s.eqs, q)
	}
	return settled(s), ts
}

func others(secrets, ts []api.Scalar) []api.Scalar {
	draw := rand.New(rand.NewSource(9))
	l := slices.Clone(secrets)
	for i, t := range ts {
		d := drawnScalars(draw, 1)[0]
		l[2*i] = plus(l[2*i], times(t, d))
		l[2*i+1] = minus(l[2*i+1], d)
	}
	l[len(l)-1] = drawnScalars(draw, 1)[0]
	return l
}

// beside is the same system as it is proved with other secrets, and the nonces that make up for it.
func beside(s system, secrets []api.Scalar, c api.Scalar) system {
	other := s.copied()
	for i, x := range s.secrets {
		other.secrets[i] = secrets[i]
		other.nonces[i] = plus(s.nonces[i], times(c, minus(x, secrets[i])))
	}
	return other
}

func shapes() [][2]int { return [][2]int{{1, 1}, {2, 1}, {1, 3}, {3, 2}, {16, 8}} }

func TestNothingIsTold(t *testing.T) {
	for _, shape := range shapes() {
		s, ts := pairs(shape[0], shape[1])
		p := s.proof(t)
		other := beside(s, others(s.secrets, ts), p.C)
		for i := range s.secrets {
			if other.secrets[i] == s.secrets[i] || other.nonces[i] == s.nonces[i] {
				t.Fatalf("of %v the secrets, or nonces, %d are the same", shape, i)
			}
		}
		if got := other.proof(t); !same(got, p) {
			t.Errorf("of %v other secrets have the proof %x, want %x", shape, got, p)
		}
		if got := beside(s, s.secrets, p.C).proof(t); !same(got, p) {
			t.Errorf("of %v the same secrets have the proof %x, want %x", shape, got, p)
		}
	}
}

// extracted are the responses' differences, divided by the challenges'.
func extracted(p, q api.Proof) []api.Scalar {
	over := inverse(minus(p.C, q.C))
	var l []api.Scalar
	for i := range p.S {
		l = append(l, times(minus(p.S[i], q.S[i]), over))
	}
	return l
}

func checkExtracted(t *testing.T, what string, s system, p, q api.Proof) {
	t.Helper()
	if p.C == q.C {
		t.Fatalf("%s: two answers with one challenge", what)
	}
	if !slices.Equal(answered(s.eqs, p), answered(s.eqs, q)) {
		t.Errorf("%s: two answers to unlike commitments", what)
	}
	s.secrets = extracted(p, q)
	for i, met := range s.eqs {
		if commitmentOf(met, s.secrets) != met.Left {
			t.Errorf("%s: the equation %d isn't met", what, i)
		}
	}
	if e := claimOf(t, s).verify(); e != api.OK {
		t.Errorf("%s: what is extracted proves nothing: %v", what, e)
	}
}

// Two labels, and the same commitments: answered by the same secrets, and by others.
func TestSecretsAreExtracted(t *testing.T) {
	for _, shape := range shapes() {
		s, ts := pairs(shape[0], shape[1])
		p := s.proof(t)
		relabelled := s.copied()
		relabelled.label = "another label"
		checkExtracted(t, "the same secrets", s, p, relabelled.proof(t))
		if !slices.Equal(extracted(p, relabelled.proof(t)), s.secrets) {
			t.Errorf("of %v other secrets are extracted than there are", shape)
		}
		other := beside(relabelled, others(s.secrets, ts), p.C)
		checkExtracted(t, "other secrets", s, p, other.proof(t))
	}
}

func TestResponses(t *testing.T) {
	s := usual()
	p := s.proof(t)
	for i, x := range s.secrets {
		if p.S[i] != plus(s.nonces[i], times(p.C, x)) || !algebra.IsScalar(p.S[i]) {
			t.Errorf("the response %d is %x", i, p.S[i])
		}
	}
	if !algebra.IsScalar(p.C) || len(p.S) != 5 {
		t.Errorf("the proof is %x", p)
	}
	if !same(s.proof(t), p) {
		t.Error("the same system has two proofs")
	}
}
