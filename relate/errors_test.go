package relate_test

import (
	"encoding/hex"
	"math"
	"slices"
	"strings"
	"testing"

	"vestry/algebra"
	"vestry/api"
	"vestry/relate"
)

func bytesOf(text string) [32]byte {
	b, err := hex.DecodeString(text)
	if err != nil {
		panic(err)
	}
	return [32]byte(b)
}

// wrongScalars are l, l and 1, 2^253, and the greatest.
func wrongScalars() []api.Scalar {
	return []api.Scalar{
		bytesOf("edd3f55c1a631258d69cf7a2def9de1400000000000000000000000000000010"),
		bytesOf("eed3f55c1a631258d69cf7a2def9de1400000000000000000000000000000010"),
		{31: 32},
		bytesOf(strings.Repeat("ff", 32)),
	}
}

// wrongPoints are an odd number, one that isn't below p, one without a root, and the greatest.
func wrongPoints() []api.Point {
	return []api.Point{
		{1},
		bytesOf("edffffffffffffffffffffffffffffffffffffffffffffffffffffffffffff7f"),
		bytesOf("26948d35ca62e643e26a83177332e6b6afeb9d08e4268b650f1f5bbd8d81d371"),
		bytesOf(strings.Repeat("ff", 32)),
	}
}

// fault is what is made wrong, in a thing that is right otherwise, and the error that it is refused with.
type fault[T any] struct {
	name  string
	errno api.Errno
	spoil func(x *T)
}

// checkFaults holds each fault, alone and with each one that has another error: the first error is told. Those that leave fewer parts to make wrong come last.
func checkFaults[T any](t *testing.T, faults []fault[T], right func() T, call func(x T) api.Errno) {
	t.Helper()
	if e := call(right()); e != api.OK {
		t.Fatalf("without a fault: %v", e)
	}
	for _, f := range faults {
		x := right()
		f.spoil(&x)
		if e := call(x); e != f.errno {
			t.Errorf("%s: %v, want %v", f.name, e, f.errno)
		}
		for _, g := range faults {
			if g.errno <= f.errno { // their numbers rise in the order in which they are told
				continue
			}
			x := right()
			g.spoil(&x)
			f.spoil(&x)
			if e := call(x); e != f.errno {
				t.Errorf("%s, and %s: %v, want %v", f.name, g.name, e, f.errno)
			}
		}
	}
}

func faultsOfLabels[T any](of func(x *T) *string) []fault[T] {
	var l []fault[T]
	for _, label := range []string{strings.Repeat("l", 1001), strings.Repeat("\x00", 1002), strings.Repeat("\u00e9", 501), strings.Repeat("l", 1<<20)} {
		l = append(l, fault[T]{"a label too long", api.ErrArg, func(x *T) { *of(x) = label }})
	}
	return l
}

func faultsOfNumbers[T any](secrets int, of func(x *T) *[]api.Equation) []fault[T] {
	l := []fault[T]{
		{"no list of equations", api.ErrArg, func(x *T) { *of(x) = nil }},
		{"no equations", api.ErrArg, func(x *T) { *of(x) = []api.Equation{} }},
		{"17 equations", api.ErrArg, func(x *T) { *of(x) = slices.Repeat(*of(x), 17)[:17] }},
		{"17 equations of no part", api.ErrArg, func(x *T) { *of(x) = make([]api.Equation, 17) }},
	}
	for i := range usual().eqs {
		for _, n := range []int{17, 18, 65} {
			l = append(l, fault[T]{"too many parts", api.ErrArg, func(x *T) { q := &(*of(x))[i]; q.Parts = slices.Repeat(q.Parts, n)[:n] }})
		}
		for j := range usual().eqs[i].Parts {
			for _, n := range []int{-1, -2, math.MinInt, math.MinInt32, secrets, secrets + 1, 32, 256, 1 << 32, math.MaxInt} {
				l = append(l, fault[T]{"a number that is no secret's", api.ErrArg, func(x *T) { (*of(x))[i].Parts[j].Secret = n }})
			}
		}
	}
	return l
}

func faultsOfPoints[T any](of func(x *T) *[]api.Equation) []fault[T] {
	var l []fault[T]
	for _, p := range wrongPoints() {
		for i := range usual().eqs {
			l = append(l, fault[T]{"a Left that may not be", api.ErrPoint, func(x *T) { (*of(x))[i].Left = p }})
			for j := range usual().eqs[i].Parts {
				l = append(l, fault[T]{"a part's point that may not be", api.ErrPoint, func(x *T) { (*of(x))[i].Parts[j].Base = p }})
			}
		}
	}
	return l
}

// faultsOfScalars are those of lists of scalars, as many as usual has secrets.
func faultsOfScalars[T any](what string, of func(x *T) []api.Scalar) []fault[T] {
	var l []fault[T]
	for _, k := range wrongScalars() {
		for i := range usual().secrets {
			l = append(l, fault[T]{what + " that may not be", api.ErrScalar, func(x *T) { of(x)[i] = k }})
		}
	}
	return l
}

func faultsOfSystems() []fault[system] {
	eqs := func(s *system) *[]api.Equation { return &s.eqs }
	l := slices.Concat(
		faultsOfLabels(func(s *system) *string { return &s.label }),
		faultsOfNumbers(5, eqs),
		faultsOfScalars("a secret", func(s *system) []api.Scalar { return s.secrets }),
		faultsOfScalars("a nonce", func(s *system) []api.Scalar { return s.nonces }),
		faultsOfPoints(eqs),
		[]fault[system]{
			{"no secrets", api.ErrArg, func(s *system) { s.secrets = nil }},
			{"no nonces", api.ErrArg, func(s *system) { s.nonces = nil }},
			{"neither", api.ErrArg, func(s *system) { s.secrets, s.nonces = nil, []api.Scalar{} }},
			{"a secret too few", api.ErrArg, func(s *system) { s.secrets = s.secrets[:4] }},
			{"a secret too many", api.ErrArg, func(s *system) { s.secrets = append(s.secrets, api.Scalar{}) }},
			{"a nonce too few", api.ErrArg, func(s *system) { s.nonces = s.nonces[:4] }},
			{"a nonce too many", api.ErrArg, func(s *system) { s.nonces = append(s.nonces, api.Scalar{}) }},
			{"33 secrets", api.ErrArg, func(s *system) { s.secrets, s.nonces = lengthened(s.secrets, 33), lengthened(s.nonces, 33) }},
			{"33 secrets, 32 nonces", api.ErrArg, func(s *system) { s.secrets, s.nonces = lengthened(s.secrets, 33), lengthened(s.nonces, 32) }},
		})
	for i, q := range usual().eqs {
		l = append(l, fault[system]{"an equation that isn't met", api.ErrProof, func(s *system) { s.eqs[i].Left = next(q.Left) }})
	}
	for i := range 4 {
		l = append(l, fault[system]{"another secret", api.ErrProof, func(s *system) { s.secrets[i] = after(s.secrets[i]) }})
	}
	return l
}

func lengthened(l []api.Scalar, n int) []api.Scalar {
	return append(l, make([]api.Scalar, n-len(l))...)
}

func TestWhatProveRefuses(t *testing.T) {
	checkFaults(t, faultsOfSystems(), usual().copied, func(s system) api.Errno {
		p, e := s.prove()
		if e != api.OK && (p.C != (api.Scalar{}) || len(p.S) != 0) {
			t.Errorf("beside %v: %x", e, p)
		}
		return e
	})
}

func faultsOfClaims() []fault[claim] {
	eqs := func(c *claim) *[]api.Equation { return &c.eqs }
	l := slices.Concat(
		faultsOfLabels(func(c *claim) *string { return &c.label }),
		faultsOfNumbers(5, eqs),
		faultsOfScalars("a response", func(c *claim) []api.Scalar { return c.proof.S }),
		faultsOfPoints(eqs),
		[]fault[claim]{
			{"no responses", api.ErrArg, func(c *claim) { c.proof.S = nil }},
			{"neither secrets nor responses", api.ErrArg, func(c *claim) { c.secrets, c.proof.S = 0, nil }},
			{"a response too few", api.ErrArg, func(c *claim) { c.proof.S = c.proof.S[:4] }},
			{"a response too many", api.ErrArg, func(c *claim) { c.proof.S = append(c.proof.S, api.Scalar{}) }},
			{"33 secrets", api.ErrArg, func(c *claim) { c.secrets, c.proof.S = 33, lengthened(c.proof.S, 33) }},
		})
	for _, n := range []int{0, -1, 1, 4, 6, 33, 1<<32 + 5, math.MinInt, math.MaxInt} {
		l = append(l, fault[claim]{"another number of secrets", api.ErrArg, func(c *claim) { c.secrets = n }})
	}
	for _, k := range wrongScalars() {
		l = append(l, fault[claim]{"C that may not be", api.ErrScalar, func(c *claim) { c.proof.C = k }})
	}
	for i, q := range usual().eqs {
		l = append(l, fault[claim]{"another Left", api.ErrProof, func(c *claim) { c.eqs[i].Left = next(q.Left) }})
	}
	return append(l,
		fault[claim]{"another C", api.ErrProof, func(c *claim) { c.proof.C = algebra.Of(1) }},
		fault[claim]{"another response", api.ErrProof, func(c *claim) { c.proof.S[0] = algebra.Of(1) }},
		fault[claim]{"another label", api.ErrProof, func(c *claim) { c.label = "another" }})
}

func TestWhatVerifyRefuses(t *testing.T) {
	right := claimOf(t, usual())
	checkFaults(t, faultsOfClaims(), right.copied, claim.verify)
}

// At a limit it is taken, one past it it isn't; and what is at the end of the most is looked at too.
func TestLimits(t *testing.T) {
	s := most()
	p := s.proof(t)
	if e := relate.Verify(s.label, s.eqs, 32, p); e != api.OK {
		t.Errorf("Verify of the most: %v", e)
	}
	for _, f := range []fault[system]{
		{"17 equations", api.ErrArg, func(s *system) { s.eqs = append(s.eqs, api.Equation{}) }},
		{"17 parts in the first", api.ErrArg, func(s *system) { s.eqs[0].Parts = append(s.eqs[0].Parts, api.Part{}) }},
		{"17 parts in the last", api.ErrArg, func(s *system) { s.eqs[15].Parts = append(s.eqs[15].Parts, api.Part{}) }},
		{"33 secrets", api.ErrArg, func(s *system) { s.secrets, s.nonces = lengthened(s.secrets, 33), lengthened(s.nonces, 33) }},
		{"a label of 1001 bytes", api.ErrArg, func(s *system) { s.label += "l" }},
		{"a Left of the last may not be", api.ErrPoint, func(s *system) { s.eqs[15].Left = wrongPoints()[0] }},
		{"a point of the last may not be", api.ErrPoint, func(s *system) { s.eqs[15].Parts[15].Base = wrongPoints()[0] }},
		{"the secrets miss the first", api.ErrProof, func(s *system) { s.eqs[0].Left = next(s.eqs[0].Left) }},
		{"the secrets miss the last", api.ErrProof, func(s *system) { s.eqs[15].Left = next(s.eqs[15].Left) }},
	} {
		s := s.copied()
		f.spoil(&s)
		if q, e := s.prove(); e != f.errno || len(q.S) != 0 || q.C != (api.Scalar{}) {
			t.Errorf("%s: Prove = %x, %v", f.name, q, e)
		}
		q := api.Proof{C: p.C, S: lengthened(slices.Clone(p.S), len(s.secrets))}
		if e := relate.Verify(s.label, s.eqs, len(s.secrets), q); e != f.errno {
			t.Errorf("%s: Verify = %v", f.name, e)
		}
	}
}

// An equation of no part is met if its Left is the identity, whatever the secrets are.
func TestEquationsOfNoPart(t *testing.T) {
	for _, numbers := range [][][]int{{nil}, {nil, {0}}, {{0}, nil}, {{0}, nil, {1}}} {
		s := drawn(2, numbers...)
		s.proof(t)
		at := slices.IndexFunc(numbers, func(l []int) bool { return l == nil })
		s.eqs[at].Left = algebra.Base()
		if p, e := s.prove(); e != api.ErrProof || len(p.S) != 0 || p.C != (api.Scalar{}) {
			t.Errorf("of %v, with a Left of its own: %x, %v", numbers, p, e)
		}
		if e := relate.Verify(s.label, s.eqs, 2, proofOf(s)); e != api.ErrProof {
			t.Errorf("of %v, with a Left of its own: Verify = %v", numbers, e)
		}
	}
}

func TestNothing(t *testing.T) {
	if p, e := relate.Prove("", nil, nil, nil); e != api.ErrArg || p.C != (api.Scalar{}) || len(p.S) != 0 {
		t.Errorf("Prove of nothing = %x, %v", p, e)
	}
	if e := relate.Verify("", nil, 0, api.Proof{}); e != api.ErrArg {
		t.Errorf("Verify of nothing = %v", e)
	}
}
