package bind

import (
	"vestry/algebra"
	"vestry/api"
	"vestry/sha"
)

// Draws is a source of draws: its seed's form, and how many draws it has told.
type Draws struct {
	seed  []byte
	count uint64
}

func FromSeed(seed []byte) *Draws {
	return &Draws{seed: put(nil, seed)}
}

func (d *Draws) Scalar() api.Scalar {
	if d == nil {
		return api.Scalar{}
	}
	return nonzero(d.next)
}

func (d *Draws) Bytes(n int) []byte {
	if d == nil || !derivable(n) {
		return nil
	}
	draw := d.next()
	return derived(draw[:], nil, n)
}

func (d *Draws) next() [64]byte {
	text := append(cut(d.seed), drawn)
	for shift := 56; shift >= 0; shift -= 8 {
		text = append(text, byte(d.count>>shift))
	}
	d.count++
	return sha.Sum512(text)
}

// nonzero is told its draws by a function, as no seed is known whose draw is 0.
func nonzero(next func() [64]byte) api.Scalar {
	for {
		if k := algebra.Reduce(next()); k != (api.Scalar{}) {
			return k
		}
	}
}
