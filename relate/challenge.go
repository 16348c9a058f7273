package relate

import (
	"vestry/api"
	"vestry/bind"
)

// challenge is told the commitments by a function: who proves and who verifies make them unlike.
func challenge(label string, eqs []api.Equation, secrets int, commitment func(api.Equation) api.Point) api.Scalar {
	s := bind.New("relate").Add("label", []byte(label)).Add("secrets", inFour(secrets))
	for _, q := range eqs {
		s.Add("left", q.Left[:])
		for _, part := range q.Parts {
			s.Add("part", append(inFour(part.Secret), part.Base[:]...))
		}
		commit := commitment(q)
		s.Add("commit", commit[:])
	}
	return s.Scalar("challenge")
}

// inFour is asked of numbers that fit into four bytes.
func inFour(n int) []byte {
	return []byte{byte(n >> 24), byte(n >> 16), byte(n >> 8), byte(n)}
}
