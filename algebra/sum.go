package algebra

import (
	"vestry/api"
	"vestry/edwards"
	"vestry/risto"
)

// multiples are a point's small ones: 0 to 15 times it, as many as four bits of a scalar tell.
type multiples [16]edwards.Point

func Sum(l ...api.Term) (api.Point, api.Errno) {
	if len(l) > api.MaxTerms {
		return api.Point{}, api.ErrLong
	}
	points := make([]multiples, len(l))
	for i, t := range l {
		if !IsScalar(t.K) {
			return api.Point{}, api.ErrScalar
		}
		p, ok := risto.Decode(t.P)
		if !ok {
			return api.Point{}, api.ErrPoint
		}
		points[i] = multiplesOf(p)
	}
	return risto.Encode(together(l, points)), api.OK
}

func multiplesOf(p edwards.Point) multiples {
	var m multiples
	m[0] = edwards.Identity()
	for i := range 15 {
		m[i+1] = edwards.Add(m[i], p)
	}
	return m
}

// together goes over the scalars' digits from the highest down, so that what is there of all terms is doubled once for all of them.
func together(l []api.Term, points []multiples) edwards.Point {
	sum := edwards.Identity()
	for i := range 64 {
		for range 4 {
			sum = edwards.Add(sum, sum)
		}
		for j, t := range l {
			if d := digit(t.K, 63-i); d != 0 { // to add the identity would take as long as any other
				sum = edwards.Add(sum, points[j][d])
			}
		}
	}
	return sum
}

// digit is the scalar's four bits at this place, from the lowest up.
func digit(k api.Scalar, at int) byte { return k[at/2] >> (at % 2 * 4) & 15 }
