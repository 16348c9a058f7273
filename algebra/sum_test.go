package algebra_test

import (
	"math/big"
	"math/rand"
	"slices"
	"testing"

	"vestry/algebra"
	"vestry/api"
)

func term(k api.Scalar, p api.Point) api.Term { return api.Term{K: k, P: p} }

// once is a term with the scalar 1.
func once(p api.Point) api.Term { return term(algebra.Of(1), p) }

func drawnTerm(draw *rand.Rand) api.Term { return term(drawnScalar(draw), drawnPoint(draw)) }

func drawnTerms(draw *rand.Rand, n int) []api.Term {
	var l []api.Term
	for range n {
		l = append(l, drawnTerm(draw))
	}
	return l
}

// summed is the oracle's sum of terms that may be.
func summed(l []api.Term) api.Point {
	p := identity()
	for _, t := range l {
		p = added(p, multiple(numberOf(t.K), mustDecode(t.P)))
	}
	return encoded(p)
}

// sum is the program's of terms that may be.
func sum(t *testing.T, l ...api.Term) api.Point {
	t.Helper()
	p, e := algebra.Sum(l...)
	if e != api.OK {
		t.Fatalf("Sum(%x) = %v", l, e)
	}
	if !algebra.IsPoint(p) {
		t.Fatalf("Sum(%x) = %x, which may not be", l, p)
	}
	return p
}

func checkSum(t *testing.T, want api.Point, l ...api.Term) {
	t.Helper()
	if got := sum(t, l...); got != want {
		t.Fatalf("Sum(%x) = %x, want %x", l, got, want)
	}
}

func checkRefused(t *testing.T, want api.Errno, l ...api.Term) {
	t.Helper()
	if p, e := algebra.Sum(l...); e != want || p != (api.Point{}) {
		t.Fatalf("Sum(%x) = %x, %v, want %v", l, p, e, want)
	}
}

func TestSumOfNone(t *testing.T) {
	checkSum(t, algebra.Identity())
	checkSum(t, algebra.Identity(), []api.Term(nil)...)
	checkSum(t, algebra.Identity(), []api.Term{}...)
}

func TestSumOfTheBasesMultiples(t *testing.T) {
	for n, want := range listed() {
		checkSum(t, want, term(algebra.Of(uint64(n)), algebra.Base()))
		checkSum(t, want, slices.Repeat([]api.Term{once(algebra.Base())}, n)...)
	}
}

// TestSumAtEachDigit: one digit of the scalar is not 0.
func TestSumAtEachDigit(t *testing.T) {
	p := base()
	for at := range uint(63) {
		q := p
		for digit := int64(1); digit < 16; digit++ {
			checkSum(t, encoded(q), term(inBytes(new(big.Int).Lsh(number(digit), 4*at)), algebra.Base()))
			q = added(q, p)
		}
		p = q
	}
	checkSum(t, encoded(p), term(inBytes(power(252)), algebra.Base()))
}

func TestSumOfOne(t *testing.T) {
	draw := draws(7)
	points := []api.Point{algebra.Identity(), algebra.Base(), listed()[15], drawnPoint(draw), drawnPoint(draw), drawnPoint(draw)}
	for _, p := range points {
		for _, k := range scalars(8) {
			l := []api.Term{term(k, p)}
			checkSum(t, summed(l), l...)
		}
		checkSum(t, p, once(p))
		checkSum(t, algebra.Identity(), term(algebra.Of(0), p))
		checkSum(t, encoded(opposite(mustDecode(p))), term(orderPlus(-1), p))
	}
}

func TestSumOfSome(t *testing.T) {
	draw := draws(8)
	for _, n := range []int{2, 2, 2, 3, 3, 5, 8, 13} {
		l := drawnTerms(draw, n)
		checkSum(t, summed(l), l...)
	}
}

// TestSumOfMostTerms: as many as may be are taken, one more is not, whatever is wrong with them.
func TestSumOfMostTerms(t *testing.T) {
	l := drawnTerms(draws(9), api.MaxTerms)
	want := summed(l)
	checkSum(t, want, l...)
	checkRefused(t, api.ErrLong, append(l, once(algebra.Base()))...)
	checkRefused(t, api.ErrLong, append(l, api.Term{})...)
	checkRefused(t, api.ErrLong, append(l, term(full(), full()))...)
	checkRefused(t, api.ErrLong, append([]api.Term{term(full(), algebra.Base())}, l...)...)
	checkRefused(t, api.ErrLong, append([]api.Term{once(full())}, l...)...)
	checkRefused(t, api.ErrLong, make([]api.Term, api.MaxTerms+1)...)
	checkRefused(t, api.ErrLong, make([]api.Term, 1000)...)
	checkSum(t, algebra.Identity(), make([]api.Term, api.MaxTerms)...)
	l[api.MaxTerms-1].K = full()
	checkRefused(t, api.ErrScalar, l...)
	l[api.MaxTerms-1] = once(full())
	checkRefused(t, api.ErrPoint, l...)
}

func TestSumOfATermThatMayNotBe(t *testing.T) {
	draw := draws(10)
	right := drawnTerm(draw)
	for _, k := range wrongScalars() {
		for _, p := range []api.Point{algebra.Identity(), algebra.Base(), right.P} {
			wrong := term(k, p)
			checkRefused(t, api.ErrScalar, wrong)
			checkRefused(t, api.ErrScalar, wrong, right)
			checkRefused(t, api.ErrScalar, right, wrong)
			checkRefused(t, api.ErrScalar, right, api.Term{}, wrong, right)
		}
	}
	for _, p := range wrongPoints() {
		for _, k := range []api.Scalar{algebra.Of(0), algebra.Of(1), right.K, orderPlus(-1)} {
			wrong := term(k, p)
			checkRefused(t, api.ErrPoint, wrong)
			checkRefused(t, api.ErrPoint, wrong, right)
			checkRefused(t, api.ErrPoint, right, wrong)
			checkRefused(t, api.ErrPoint, right, api.Term{}, wrong, right)
		}
	}
}

// TestSumOfTermsThatMayNotBe: the first of them is told, and of both its parts the scalar.
func TestSumOfTermsThatMayNotBe(t *testing.T) {
	right := drawnTerm(draws(11))
	for _, k := range wrongScalars() {
		for _, p := range wrongPoints() {
			noScalar, noPoint, neither := term(k, right.P), term(right.K, p), term(k, p)
			checkRefused(t, api.ErrScalar, neither)
			checkRefused(t, api.ErrScalar, right, neither)
			checkRefused(t, api.ErrScalar, noScalar, noPoint)
			checkRefused(t, api.ErrPoint, noPoint, noScalar)
			checkRefused(t, api.ErrPoint, noPoint, neither)
			checkRefused(t, api.ErrScalar, neither, noPoint)
			checkRefused(t, api.ErrPoint, right, noPoint, right, noScalar)
			checkRefused(t, api.ErrScalar, right, noScalar, right, noPoint)
		}
	}
}

// TestSumOfTermsThatAddNothing: a scalar 0, the identity, a point and its opposite.
func TestSumOfTermsThatAddNothing(t *testing.T) {
	draw := draws(12)
	p, q := drawnTerm(draw), drawnTerm(draw)
	want := summed([]api.Term{p, q})
	none := term(algebra.Of(0), drawnPoint(draw))
	same := term(drawnScalar(draw), algebra.Identity())
	other := drawnPoint(draw)
	away := encoded(opposite(mustDecode(other)))
	k := drawnScalar(draw)
	back := scalarOf(new(big.Int).Neg(numberOf(k)))
	for _, l := range [][]api.Term{
		{none}, {same}, {none, same, {}}, {term(orderPlus(-1), algebra.Identity())},
		{once(other), once(away)}, {term(k, other), term(k, away)}, {term(k, other), term(back, other)}, {term(k, away), term(back, away), none},
		{once(other), term(orderPlus(-1), other)},
	} {
		checkSum(t, algebra.Identity(), l...)
		checkSum(t, want, append([]api.Term{p, q}, l...)...)
		checkSum(t, want, append(slices.Clone(l), p, q)...)
		checkSum(t, want, append(append([]api.Term{p}, l...), q)...)
	}
}

func TestSumOfOnePointMoreThanOnce(t *testing.T) {
	draw := draws(13)
	p := drawnPoint(draw)
	a, b := drawnScalar(draw), drawnScalar(draw)
	l := []api.Term{term(a, p), term(b, p), term(a, p)}
	checkSum(t, summed(l), l...)
	checkSum(t, sum(t, term(algebra.Of(2), p)), once(p), once(p))
	checkSum(t, sum(t, term(algebra.Of(api.MaxTerms), p)), slices.Repeat([]api.Term{once(p)}, api.MaxTerms)...)
	both := scalarOf(new(big.Int).Add(numberOf(a), numberOf(b)))
	checkSum(t, sum(t, term(both, p)), term(a, p), term(b, p))
}

// TestSumLeavesItsTerms: those that are handed in stay as they were, and so does the room behind them, whatever is answered.
func TestSumLeavesItsTerms(t *testing.T) {
	room := drawnTerms(draws(14), 8)
	room[6] = term(full(), full())
	kept := slices.Clone(room)
	sum(t, room[:5]...)
	if !slices.Equal(room, kept) {
		t.Error("Sum changed the terms")
	}
	checkRefused(t, api.ErrScalar, room...)
	if !slices.Equal(room, kept) {
		t.Error("Sum changed the terms that it refused")
	}
}

func TestSumsHangOnNoOrder(t *testing.T) {
	draw := draws(15)
	l := drawnTerms(draw, 6)
	l = append(l, l[0], term(algebra.Of(0), l[1].P), once(algebra.Identity()))
	want := summed(l)
	for range 30 {
		checkSum(t, want, l...)
		draw.Shuffle(len(l), func(i, j int) { l[i], l[j] = l[j], l[i] })
	}
}

func TestSumOfSums(t *testing.T) {
	l := drawnTerms(draws(16), 7)
	want := sum(t, l...)
	for n := range len(l) + 1 {
		checkSum(t, want, once(sum(t, l[:n]...)), once(sum(t, l[n:]...)))
	}
}

// TestScalarsSpread: over sums of points, over sums of scalars, and over products.
func TestScalarsSpread(t *testing.T) {
	draw := draws(17)
	for range 20 {
		a, b := drawnScalar(draw), drawnScalar(draw)
		p, q := drawnPoint(draw), drawnPoint(draw)
		checkSum(t, sum(t, term(a, p), term(a, q)), term(a, sum(t, once(p), once(q))))
		both, _ := algebra.Plus(a, b)
		checkSum(t, sum(t, term(a, p), term(b, p)), term(both, p))
		less, _ := algebra.Minus(a, b)
		checkSum(t, sum(t, term(a, p)), term(less, p), term(b, p))
		product, _ := algebra.Times(a, b)
		checkSum(t, sum(t, term(product, p)), term(a, sum(t, term(b, p))))
		inverse, _ := algebra.Inverse(a)
		checkSum(t, p, term(inverse, sum(t, term(a, p))))
	}
}

// TestSumOfWhatIsMapped: points of Map and scalars of Reduce are taken.
func TestSumOfWhatIsMapped(t *testing.T) {
	draw := draws(18)
	var l []api.Term
	for range 5 {
		var b, c [64]byte
		draw.Read(b[:])
		draw.Read(c[:])
		l = append(l, term(algebra.Reduce(b), algebra.Map(c)))
	}
	checkSum(t, summed(l), l...)
}

// TestExamples are the chapter's.
func TestExamples(t *testing.T) {
	b := algebra.Base()
	checkSum(t, algebra.Identity())
	checkSum(t, algebra.Identity(), term(algebra.Of(0), b))
	checkSum(t, b, term(algebra.Of(1), b))
	checkSum(t, algebra.Identity(), term(orderPlus(-1), b), once(b))
	checkRefused(t, api.ErrScalar, term(full(), full()))
	checkRefused(t, api.ErrScalar, term(full(), b), once(full()))
	if s, e := algebra.Inverse(algebra.Of(0)); e != api.ErrScalar || s != (api.Scalar{}) {
		t.Errorf("Inverse(0) = %x, %v", s, e)
	}
	if s, e := algebra.Plus(orderPlus(0), algebra.Of(0)); e != api.ErrScalar || s != (api.Scalar{}) {
		t.Errorf("Plus of l and 0 = %x, %v", s, e)
	}
}
