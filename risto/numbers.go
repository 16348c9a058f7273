package risto

import "vestry/limb"

// The chapter's four numbers are written out, since roots would take as long as what asks for them: a test holds each against its definition.

// rootOver is N, 1 / the root of -1 - d.
func rootOver() limb.Fe {
	return limb.Fe{0x99c8fdaa805d40ea, 0x9d2f16175a4172be, 0x16c27b91fe01d840, 0x786c8905cfaffca2}
}

// oddRoot is M, the root of -d - 1 that is odd.
func oddRoot() limb.Fe {
	return limb.Fe{0x7e97f6a0497b2e1b, 0xaf9d8e0c1b7854bd, 0x0f3cfcc931f5d1fd, 0x376931bf2b8348ac}
}

// lessSquare is A, 1 - d d.
func lessSquare() limb.Fe {
	return limb.Fe{0xe27c09c1945fc176, 0x2c81a138cd5e350f, 0x9994abddbe70dfe4, 0x029072a8b2b3e0d7}
}

// squareLess is B, (d - 1) (d - 1).
func squareLess() limb.Fe {
	return limb.Fe{0x31ad5aaa44ed4d20, 0xd29e4a2cb01e1999, 0x4cdcd32f529b4eeb, 0x5968b37af66c2241}
}
