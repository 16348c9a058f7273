package edwards

import "vestry/limb"

func On(p Point) bool {
	if isNought(p.Z) || !limb.Same(limb.Mul(p.X, p.Y), limb.Mul(p.Z, p.T)) {
		return false
	}
	// The equation times Z Z; there d T T stands for what d x x y y is, since X Y = Z T.
	left := limb.Sub(limb.Mul(p.Y, p.Y), limb.Mul(p.X, p.X))
	right := limb.Add(limb.Mul(p.Z, p.Z), limb.Mul(D(), limb.Mul(p.T, p.T)))
	return limb.Same(left, right)
}

func Same(p, q Point) bool {
	return limb.Same(limb.Mul(p.X, q.Z), limb.Mul(q.X, p.Z)) && limb.Same(limb.Mul(p.Y, q.Z), limb.Mul(q.Y, p.Z))
}

func Affine(p Point) (x, y limb.Fe, ok bool) {
	if isNought(p.Z) {
		return limb.Fe{}, limb.Fe{}, false
	}
	over := limb.Inv(p.Z)
	return limb.Mul(p.X, over), limb.Mul(p.Y, over), true
}

func isNought(a limb.Fe) bool { return limb.Same(a, limb.Of(0)) }
