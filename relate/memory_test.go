package relate_test

import (
	"reflect"
	"slices"
	"testing"

	"vestry/algebra"
	"vestry/api"
)

// roomy is a copy of a list with room behind it, in which something stands.
func roomy[T any](l []T, filler T) []T {
	return slices.Concat(l, slices.Repeat([]T{filler}, 40))[:len(l)]
}

func whole[T any](l []T) []T { return l[:cap(l)] }

func roomySystem() system {
	s := usual()
	s.eqs = roomyEquations(s.eqs)
	s.secrets, s.nonces = roomy(s.secrets, api.Scalar{1, 2}), roomy(s.nonces, api.Scalar{3, 4})
	return s
}

func roomyEquations(eqs []api.Equation) []api.Equation {
	eqs = roomy(eqs, api.Equation{Left: api.Point{5}, Parts: []api.Part{{Secret: 6}}})
	for i, q := range eqs {
		eqs[i].Parts = roomy(q.Parts, api.Part{Secret: 7, Base: api.Point{8}})
	}
	return eqs
}

// opened is all that stands in a list of equations and in its room.
func opened(eqs []api.Equation) []api.Equation {
	eqs = slices.Clone(whole(eqs))
	for i, q := range eqs {
		eqs[i].Parts = slices.Clone(whole(q.Parts))
	}
	return eqs
}

func openedSystem(s system) system {
	return system{s.label, opened(s.eqs), slices.Clone(whole(s.secrets)), slices.Clone(whole(s.nonces))}
}

func TestProveLeavesItsLists(t *testing.T) {
	for _, f := range append(faultsOfSystems(), fault[system]{"no fault", api.OK, func(*system) {}}) {
		s := roomySystem()
		f.spoil(&s)
		before := openedSystem(s)
		if _, e := s.prove(); e != f.errno {
			t.Errorf("%s: %v", f.name, e)
		}
		if !reflect.DeepEqual(openedSystem(s), before) {
			t.Errorf("%s: Prove changed what was handed in", f.name)
		}
	}
}

func TestVerifyLeavesItsLists(t *testing.T) {
	right := claimOf(t, usual())
	for _, f := range append(faultsOfClaims(), fault[claim]{"no fault", api.OK, func(*claim) {}}) {
		c := right.copied()
		c.eqs, c.proof.S = roomyEquations(c.eqs), roomy(c.proof.S, api.Scalar{9})
		f.spoil(&c)
		eqs, responses := opened(c.eqs), slices.Clone(whole(c.proof.S))
		if e := c.verify(); e != f.errno {
			t.Errorf("%s: %v", f.name, e)
		}
		if !reflect.DeepEqual(opened(c.eqs), eqs) || !slices.Equal(whole(c.proof.S), responses) {
			t.Errorf("%s: Verify changed what was handed in", f.name)
		}
	}
}

func scribbled[T any](l []T, with T) {
	for i := range whole(l) {
		whole(l)[i] = with
	}
}

func TestProveAnswersNewMemory(t *testing.T) {
	s, want := roomySystem(), proofOf(usual())
	before := openedSystem(s)
	one, two := s.proof(t), s.proof(t)
	scribbled(one.S, api.Scalar{10})
	if !same(two, want) {
		t.Error("two answers share memory")
	}
	if !reflect.DeepEqual(openedSystem(s), before) {
		t.Error("an answer shares memory with what was handed in")
	}
	scribbled(s.secrets, api.Scalar{11})
	scribbled(s.nonces, api.Scalar{12})
	for _, q := range s.eqs {
		scribbled(q.Parts, api.Part{Base: algebra.Base()})
	}
	scribbled(s.eqs, api.Equation{})
	if !same(two, want) {
		t.Error("an answer hangs on what was handed in, afterwards")
	}
	if !same(usual().proof(t), want) {
		t.Error("what was handed in once is kept")
	}
}

// nil and empty are one and the same.
func TestNilIsEmpty(t *testing.T) {
	s := drawn(1, nil, []int{0})
	p := s.proof(t)
	for _, empty := range [][]api.Part{nil, {}, make([]api.Part, 0, 3)} {
		s.eqs[0].Parts = empty
		if !same(s.proof(t), p) || claimOf(t, s).verify() != api.OK {
			t.Error("a nil list of parts and an empty one have unlike proofs")
		}
	}
}
