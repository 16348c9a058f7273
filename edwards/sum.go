package edwards

import (
	"vestry/api"
	"vestry/limb"
)

func Neg(p Point) Point {
	return Point{X: limb.Neg(p.X), Y: p.Y, Z: p.Z, T: limb.Neg(p.T)}
}

func Add(p, q Point) Point {
	if p == q { // most of the sums that make a product are such
		return twice(p)
	}
	minus := limb.Mul(limb.Sub(p.Y, p.X), limb.Sub(q.Y, q.X))
	plus := limb.Mul(limb.Add(p.Y, p.X), limb.Add(q.Y, q.X))
	z := limb.Mul(p.Z, q.Z)
	z = limb.Add(z, z)
	t := limb.Mul(twiceD(), limb.Mul(p.T, q.T))
	// Neither divisor is 0, whichever two points they are of: no pair is a case of its own.
	return quotients(limb.Sub(plus, minus), limb.Add(z, t), limb.Add(plus, minus), limb.Sub(z, t))
}

// twice is the sum of a point and itself, with fewer products: the equation gives both divisors without d.
func twice(p Point) Point {
	x, y, z := limb.Mul(p.X, p.X), limb.Mul(p.Y, p.Y), limb.Mul(p.Z, p.Z)
	side := limb.Add(p.X, p.Y)
	plus, minus := limb.Add(y, x), limb.Sub(y, x)
	return quotients(limb.Sub(limb.Mul(side, side), plus), minus, plus, limb.Sub(limb.Add(z, z), minus))
}

// quotients is the point with x = a / b and y = c / d.
func quotients(a, b, c, d limb.Fe) Point {
	return Point{X: limb.Mul(a, d), Y: limb.Mul(c, b), Z: limb.Mul(b, d), T: limb.Mul(a, c)}
}

// twiceD is written out, since every sum asks for it.
func twiceD() limb.Fe {
	return limb.Fe{0xebd69b9426b2f159, 0x00e0149a8283b156, 0x198e80f2eef3d130, 0x2406d9dc56dffce7}
}

func Times(k api.Scalar, p Point) Point {
	sum := Identity()
	for i := range 256 {
		if k[i/8]>>(i%8)&1 == 1 {
			sum = Add(sum, p)
		}
		p = twice(p)
	}
	return sum
}
