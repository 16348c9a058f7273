package limb

func Pow(a, e Fe) Fe {
	// Four bits at a time: the exponents of Inv and Root are nearly all ones, and bit by bit each of them would want a product of its own.
	powers := firstPowers(a)
	r := Of(1)
	for i := range 64 {
		for range 4 {
			r = Mul(r, r)
		}
		at := 63 - i
		r = Mul(r, powers[e[at/16]>>(at%16*4)&15])
	}
	return r
}

func firstPowers(a Fe) [16]Fe {
	var powers [16]Fe
	powers[0] = Of(1)
	for n := range 15 {
		powers[n+1] = Mul(powers[n], a)
	}
	return powers
}

func Inv(a Fe) Fe {
	// Of all but 0 the power p - 1 is 1, so the power p - 2 is the inverse; of 0 it is 0.
	return Pow(a, Fe{ones - 20, ones, ones, top})
}

func I() Fe {
	// Written out, since Root asks for it each time.
	return Fe{0xc4ee1b274a0ea0b0, 0x2f431806ad2fe478, 0x2b4d00993dfbd7a7, 0x2b8324804fc1df0b}
}

func Root(u, v Fe) (r Fe, square bool) {
	// With r = u v^3 (u v^7)^((p - 5) / 8), v r r is u times a fourth root of 1: 1 or -1 if there is a root, else i or -i. To take i r for r turns the sign.
	// If u or v is 0, so is r, and each case ends as it should.
	v3 := Mul(Mul(v, v), v)
	uv3 := Mul(u, v3)
	uv7 := Mul(Mul(uv3, v3), v)
	r = Mul(uv3, Pow(uv7, Fe{ones - 2, ones, ones, 1<<60 - 1}))
	got := Mul(v, Mul(r, r))
	less := Neg(u)
	turned := Same(got, less)
	square = turned || Same(got, u)
	if turned || Same(got, Mul(I(), less)) {
		r = Mul(I(), r)
	}
	return Abs(r), square
}
