package bind

import (
	"vestry/algebra"
	"vestry/api"
	"vestry/mac"
	"vestry/sha"
)

func (s *Script) Scalar(label string) api.Scalar {
	if s == nil {
		return api.Scalar{}
	}
	return algebra.Reduce(s.asked(forScalar, label))
}

func (s *Script) Point(label string) api.Point {
	if s == nil {
		return api.Point{}
	}
	return algebra.Map(s.asked(forPoint, label))
}

func (s *Script) Bytes(label string, n int) []byte {
	if s == nil || !derivable(n) {
		return nil
	}
	return derived(s.text, put([]byte{forBytes}, label), n)
}

func (s *Script) asked(number byte, label string) [64]byte {
	return sha.Sum512(put(append(cut(s.text), number), label))
}

func derivable(n int) bool { return 0 <= n && n <= api.MaxDerived }

// derived is asked of an n that may be alone: so there is no error.
func derived(secret, info []byte, n int) []byte {
	b, _ := mac.Derive(nil, secret, info, n)
	return b
}
