package relate_test

import (
	"encoding/binary"
	"math/rand"
	"slices"
	"strings"
	"testing"

	"vestry/algebra"
	"vestry/api"
	"vestry/bind"
	"vestry/relate"
)

// What the chapter says, written out anew: commitments out of layer 5's sums, part by part, and the challenge out of layer 10's transcript.

// commitmentOf is the sum of the equation's parts, with these scalars in place of the secrets.
func commitmentOf(q api.Equation, l []api.Scalar) api.Point {
	p := algebra.Identity()
	for _, part := range q.Parts {
		p = sum(api.Term{K: algebra.Of(1), P: p}, api.Term{K: l[part.Secret], P: part.Base})
	}
	return p
}

func commitmentsOf(eqs []api.Equation, l []api.Scalar) []api.Point {
	var points []api.Point
	for _, q := range eqs {
		points = append(points, commitmentOf(q, l))
	}
	return points
}

// answered are the commitments that a proof leads back to: those of its responses, less its challenge times each Left.
func answered(eqs []api.Equation, p api.Proof) []api.Point {
	points := commitmentsOf(eqs, p.S)
	for i, q := range eqs {
		points[i] = sum(api.Term{K: algebra.Of(1), P: points[i]}, api.Term{K: minus(algebra.Of(0), p.C), P: q.Left})
	}
	return points
}

func inFour(n int) []byte { return binary.BigEndian.AppendUint32(nil, uint32(n)) }

func challengeOf(label string, eqs []api.Equation, secrets int, commits []api.Point) api.Scalar {
	s := bind.New("relate")
	s.Add("label", []byte(label))
	s.Add("secrets", inFour(secrets))
	for i, q := range eqs {
		s.Add("left", q.Left[:])
		for _, part := range q.Parts {
			s.Add("part", slices.Concat(inFour(part.Secret), part.Base[:]))
		}
		s.Add("commit", commits[i][:])
	}
	return s.Scalar("challenge")
}

func proofOf(s system) api.Proof {
	c := challengeOf(s.label, s.eqs, len(s.secrets), commitmentsOf(s.eqs, s.nonces))
	p := api.Proof{C: c}
	for i, x := range s.secrets {
		p.S = append(p.S, plus(s.nonces[i], times(c, x)))
	}
	return p
}

// system is what a proof is made of; its Lefts are right, if it is settled.
type system struct {
	label           string
	eqs             []api.Equation
	secrets, nonces []api.Scalar
}

func (s system) prove() (api.Proof, api.Errno) {
	return relate.Prove(s.label, s.eqs, s.secrets, s.nonces)
}

func (s system) proof(t *testing.T) api.Proof {
	t.Helper()
	p, e := s.prove()
	if e != api.OK {
		t.Fatalf("Prove: %v", e)
	}
	return p
}

func (s system) copied() system {
	s.eqs = copied(s.eqs)
	s.secrets, s.nonces = slices.Clone(s.secrets), slices.Clone(s.nonces)
	return s
}

func copied(eqs []api.Equation) []api.Equation {
	eqs = slices.Clone(eqs)
	for i, q := range eqs {
		eqs[i].Parts = slices.Clone(q.Parts)
	}
	return eqs
}

// settled has in each Left what its parts make of the secrets.
func settled(s system) system {
	s = s.copied()
	for i, q := range s.eqs {
		s.eqs[i].Left = commitmentOf(q, s.secrets)
	}
	return s
}

// drawn is a settled system of drawn secrets, nonces and points; each equation by its parts' numbers.
func drawn(secrets int, numbers ...[]int) system {
	draw := rand.New(rand.NewSource(int64(secrets + len(numbers))))
	s := system{label: "drawn", secrets: drawnScalars(draw, secrets), nonces: drawnScalars(draw, secrets)}
	for _, l := range numbers {
		var q api.Equation
		for _, n := range l {
			q.Parts = append(q.Parts, api.Part{Secret: n, Base: drawnPoint(draw)})
		}
		s.eqs = append(s.eqs, q)
	}
	return settled(s)
}

// most is as great as a system may be.
func most() system {
	draw := rand.New(rand.NewSource(77))
	var numbers [][]int
	for range 16 {
		l := []int{0, 31}
		for range 14 {
			l = append(l, draw.Intn(32))
		}
		numbers = append(numbers, l)
	}
	s := drawn(32, numbers...)
	s.label = strings.Repeat("l", 1000)
	return s
}

// usual is a system of three equations, whose last secret stands in none of them.
func usual() system { return drawn(5, []int{0, 1}, []int{2, 0, 2}, []int{1, 3}) }

type named struct {
	name string
	system
}

func systems() []named {
	l := []named{
		{"one of each", drawn(1, []int{0})},
		{"no part", drawn(1, nil)},
		{"an empty list of parts", drawn(1, []int{})},
		{"16 equations without a part", drawn(2, make([][]int, 16)...)},
		{"16 parts, 32 secrets", drawn(32, countedFrom(16))},
		{"16 equations of one secret", drawn(1, slices.Repeat([][]int{{0}}, 16)...)},
		{"15 equations, 31 secrets", drawn(31, slices.Repeat([][]int{{0, 30}}, 15)...)},
		{"a secret twice in one equation", drawn(1, []int{0, 0})},
		{"a secret 16 times in one equation", drawn(2, slices.Repeat([]int{1}, 16))},
		{"secrets in several equations", drawn(3, []int{0, 1}, []int{1, 2}, []int{2, 0}, []int{1})},
		{"secrets in none", drawn(4, []int{1}, []int{3, 1})},
		{"31 secrets in none", drawn(32, []int{31})},
		{"parts and none by turns", drawn(3, nil, []int{0}, nil, []int{2, 1}, nil)},
		{"the most", most()},
		{"the usual", usual()},
	}
	return append(l, special()...)
}

func countedFrom(n int) []int {
	var l []int
	for i := range 16 {
		l = append(l, n+i)
	}
	return l
}

// special are systems of scalars and points that not everybody thinks of.
func special() []named {
	noughts := system{label: "noughts", eqs: []api.Equation{{Parts: []api.Part{{}}}}, secrets: make([]api.Scalar, 2), nonces: make([]api.Scalar, 2)}
	greatest := drawn(2, []int{0, 1, 0}, []int{1})
	for i := range greatest.secrets {
		greatest.secrets[i], greatest.nonces[i] = minus(algebra.Of(0), algebra.Of(1)), minus(algebra.Of(0), algebra.Of(1))
	}
	alike := drawn(2, []int{0, 1}, []int{0, 1})
	alike.eqs[1] = alike.eqs[0]
	onePoint := drawn(2, []int{0, 1, 0}, []int{1, 1})
	for _, q := range onePoint.eqs {
		for j := range q.Parts {
			q.Parts[j].Base = algebra.Base()
		}
	}
	cancelled := drawn(2, []int{0, 1})
	cancelled.eqs[0].Parts[1].Base = cancelled.eqs[0].Parts[0].Base
	cancelled.secrets[1] = minus(algebra.Of(0), cancelled.secrets[0])
	itself := drawn(1, []int{0})
	itself.secrets[0] = algebra.Of(1)
	unhidden := drawn(2, []int{0, 1})
	unhidden.nonces = slices.Clone(unhidden.secrets)
	l := []named{
		{"noughts", noughts}, {"the greatest scalars", greatest}, {"equations alike", alike}, {"one point", onePoint},
		{"parts that cancel", cancelled}, {"a point that is its own Left", itself}, {"nonces that are the secrets", unhidden},
	}
	for _, label := range []string{"", "\x00", "\xff\xfe", "challenge", strings.Repeat("\u00e9", 500), strings.Repeat("m", 999)} {
		s := drawn(2, []int{0, 1})
		s.label = label
		l = append(l, named{"a label of its own", s})
	}
	for i := range l {
		l[i].system = settled(l[i].system)
	}
	return l
}

func sum(l ...api.Term) api.Point { return must(algebra.Sum(l...)) }

func plus(a, b api.Scalar) api.Scalar { return must(algebra.Plus(a, b)) }

func minus(a, b api.Scalar) api.Scalar { return must(algebra.Minus(a, b)) }

func times(a, b api.Scalar) api.Scalar { return must(algebra.Times(a, b)) }

func inverse(a api.Scalar) api.Scalar { return must(algebra.Inverse(a)) }

func must[T any](answer T, e api.Errno) T {
	if e != api.OK {
		panic(e)
	}
	return answer
}

// next is another point.
func next(p api.Point) api.Point {
	return sum(api.Term{K: algebra.Of(1), P: p}, api.Term{K: algebra.Of(1), P: algebra.Base()})
}

// after is another scalar.
func after(k api.Scalar) api.Scalar { return plus(k, algebra.Of(1)) }

func drawnBytes(draw *rand.Rand) [64]byte {
	var b [64]byte
	draw.Read(b[:])
	return b
}

func drawnScalars(draw *rand.Rand, n int) []api.Scalar {
	var l []api.Scalar
	for range n {
		l = append(l, algebra.Reduce(drawnBytes(draw)))
	}
	return l
}

func drawnPoint(draw *rand.Rand) api.Point { return algebra.Map(drawnBytes(draw)) }

func same(p, q api.Proof) bool { return p.C == q.C && slices.Equal(p.S, q.S) }
