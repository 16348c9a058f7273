package relate_test

import (
	"math/rand"
	"slices"
	"strings"
	"testing"

	"vestry/api"
	"vestry/relate"
)

// What Prove answers is what the chapter's words make of the same, and Verify takes it.
func TestProofs(t *testing.T) {
	for _, s := range systems() {
		p, e := s.prove()
		if e != api.OK || !same(p, proofOf(s.system)) {
			t.Errorf("%s: Prove = %x, %v, want %x", s.name, p, e, proofOf(s.system))
		}
		if e := relate.Verify(s.label, s.eqs, len(s.secrets), proofOf(s.system)); e != api.OK {
			t.Errorf("%s: Verify = %v", s.name, e)
		}
	}
}

func TestDrawnSystems(t *testing.T) {
	draw := rand.New(rand.NewSource(5))
	for range 40 {
		secrets := 1 + draw.Intn(6)
		numbers := make([][]int, 1+draw.Intn(4))
		for i := range numbers {
			for range draw.Intn(5) {
				numbers[i] = append(numbers[i], draw.Intn(secrets))
			}
		}
		s := drawn(secrets, numbers...)
		p, e := s.prove()
		if e != api.OK || !same(p, proofOf(s)) {
			t.Errorf("of %v Prove = %x, %v, want %x", numbers, p, e, proofOf(s))
		}
		if e := relate.Verify(s.label, s.eqs, secrets, p); e != api.OK {
			t.Errorf("of %v Verify = %v", numbers, e)
		}
	}
}

// claim is what a proof is held against.
type claim struct {
	label   string
	eqs     []api.Equation
	secrets int
	proof   api.Proof
}

func (c claim) verify() api.Errno { return relate.Verify(c.label, c.eqs, c.secrets, c.proof) }

func (c claim) copied() claim {
	c.eqs = copied(c.eqs)
	c.proof.S = slices.Clone(c.proof.S)
	return c
}

func claimOf(t *testing.T, s system) claim {
	t.Helper()
	return claim{s.label, s.eqs, len(s.secrets), s.proof(t)}.copied()
}

// checkOther holds the proof against something else: what it leads back to has another challenge, and it isn't taken.
func checkOther(t *testing.T, c claim, what string, change func(c *claim)) {
	t.Helper()
	c = c.copied()
	change(&c)
	if challengeOf(c.label, c.eqs, c.secrets, answered(c.eqs, c.proof)) == c.proof.C {
		t.Errorf("%s: nothing else", what)
	}
	if e := c.verify(); e != api.ErrProof {
		t.Errorf("%s: Verify = %v", what, e)
	}
}

func TestOtherEquations(t *testing.T) {
	right := claimOf(t, usual())
	for i, q := range right.eqs {
		checkOther(t, right, "another Left", func(c *claim) { c.eqs[i].Left = next(q.Left) })
		checkOther(t, right, "the identity as Left", func(c *claim) { c.eqs[i].Left = api.Point{} })
		checkOther(t, right, "a part less", func(c *claim) { c.eqs[i].Parts = c.eqs[i].Parts[1:] })
		checkOther(t, right, "a part more", func(c *claim) { c.eqs[i].Parts = append(c.eqs[i].Parts, api.Part{}) })
		checkOther(t, right, "an equation less", func(c *claim) { c.eqs = slices.Delete(c.eqs, i, i+1) })
		checkOther(t, right, "an equation twice", func(c *claim) { c.eqs = append(c.eqs, c.eqs[i]) })
		for j := range i {
			checkOther(t, right, "two equations changed about", func(c *claim) { c.eqs[i], c.eqs[j] = c.eqs[j], c.eqs[i] })
			checkOther(t, right, "two Lefts changed about", func(c *claim) { c.eqs[i].Left, c.eqs[j].Left = c.eqs[j].Left, c.eqs[i].Left })
		}
	}
	checkOther(t, right, "an equation of noughts more", func(c *claim) { c.eqs = append(c.eqs, api.Equation{}) })
}

func TestOtherParts(t *testing.T) {
	right := claimOf(t, usual())
	for i, q := range right.eqs {
		for j, part := range q.Parts {
			checkOther(t, right, "another point", func(c *claim) { c.eqs[i].Parts[j].Base = next(part.Base) })
			checkOther(t, right, "the identity as a point", func(c *claim) { c.eqs[i].Parts[j].Base = api.Point{} })
			for n := range right.secrets {
				if n != part.Secret {
					checkOther(t, right, "another number", func(c *claim) { c.eqs[i].Parts[j].Secret = n })
				}
			}
			for k := range j {
				checkOther(t, right, "two parts changed about", func(c *claim) {
					l := c.eqs[i].Parts
					l[j], l[k] = l[k], l[j]
				})
			}
		}
	}
}

// Whose sums are the same, but what is told of them isn't.
func TestOtherEquationsWithTheSameSums(t *testing.T) {
	s := drawn(3, []int{0, 1}, []int{0, 1})
	s.secrets[1], s.nonces[1] = s.secrets[0], s.nonces[0]
	right := claimOf(t, settled(s))
	checkOther(t, right, "the number of a secret that is the same", func(c *claim) { c.eqs[0].Parts[1].Secret = 0 })
	checkOther(t, right, "two numbers changed about", func(c *claim) {
		c.eqs[1].Parts[0].Secret, c.eqs[1].Parts[1].Secret = 1, 0
	})
	checkOther(t, right, "two responses that are the same, and a third one", func(c *claim) {
		c.secrets, c.proof.S = 4, append(c.proof.S, c.proof.S[0])
	})
	checkOther(t, right, "a part of the identity more", func(c *claim) { c.eqs[0].Parts = append(c.eqs[0].Parts, api.Part{}) })
	checkOther(t, right, "a part that goes over to the next equation", func(c *claim) {
		c.eqs[1].Parts = append([]api.Part{c.eqs[0].Parts[1]}, c.eqs[1].Parts...)
		c.eqs[0].Parts = c.eqs[0].Parts[:1]
	})
}

func TestOtherLabels(t *testing.T) {
	for _, label := range []string{"", "label", strings.Repeat("l", 1000)} {
		s := usual()
		s.label = label
		right := claimOf(t, s)
		others := []string{"", "\x00", label + "\x00", label + " ", strings.ToUpper(label), strings.Repeat("l", 999), "drawn"}
		for _, other := range others {
			if other != label && len(other) <= 1000 {
				checkOther(t, right, "another label", func(c *claim) { c.label = other })
			}
		}
	}
}

// Of the secrets, the last one stands in no equation.
func TestOtherNumbersOfSecrets(t *testing.T) {
	right := claimOf(t, usual())
	checkOther(t, right, "a secret less", func(c *claim) { c.secrets, c.proof.S = 4, c.proof.S[:4] })
	for n := 6; n <= 32; n++ {
		checkOther(t, right, "secrets more", func(c *claim) {
			c.secrets, c.proof.S = n, append(c.proof.S, make([]api.Scalar, n-5)...)
		})
	}
}

func TestOtherChallenges(t *testing.T) {
	right := claimOf(t, usual())
	checkOther(t, right, "another C", func(c *claim) { c.proof.C = after(c.proof.C) })
	checkOther(t, right, "the opposite of C", func(c *claim) { c.proof.C = minus(api.Scalar{}, c.proof.C) })
	checkOther(t, right, "0 as C", func(c *claim) { c.proof.C = api.Scalar{} })
	checkOther(t, right, "the label's challenge of other nonces", func(c *claim) {
		s := usual()
		s.nonces[0] = after(s.nonces[0])
		c.proof.C = proofOf(s).C
	})
	checkOther(t, right, "a proof of noughts", func(c *claim) { c.proof = api.Proof{S: make([]api.Scalar, 5)} })
}

func TestOtherResponses(t *testing.T) {
	right := claimOf(t, usual())
	for i := range 4 {
		checkOther(t, right, "another response", func(c *claim) { c.proof.S[i] = after(c.proof.S[i]) })
		checkOther(t, right, "0 as a response", func(c *claim) { c.proof.S[i] = api.Scalar{} })
		checkOther(t, right, "the opposite of a response", func(c *claim) { c.proof.S[i] = minus(api.Scalar{}, c.proof.S[i]) })
		checkOther(t, right, "the nonce as a response", func(c *claim) { c.proof.S[i] = usual().nonces[i] })
		for j := range i {
			checkOther(t, right, "two responses changed about", func(c *claim) {
				c.proof.S[i], c.proof.S[j] = c.proof.S[j], c.proof.S[i]
			})
		}
	}
}

// A response whose secret stands in no equation, or beside the identity alone, is in no commitment: any scalar is taken for it.
func TestResponsesThatNoCommitmentHangsOn(t *testing.T) {
	s := usual()
	s.eqs[0].Parts = append(s.eqs[0].Parts, api.Part{Secret: 4})
	for _, s := range []system{usual(), s} {
		c := claimOf(t, s)
		for _, k := range []api.Scalar{{}, {1}, after(c.proof.S[4])} {
			c.proof.S[4] = k
			if e := c.verify(); e != api.OK {
				t.Errorf("%x as that response: Verify = %v", k, e)
			}
		}
	}
}
