package relate

import (
	"vestry/algebra"
	"vestry/api"
)

// told tells what stands in an equation for a secret, by its number: the secret itself, its nonce or its response.
type told func(number int) api.Scalar

func from(l []api.Scalar) told {
	return func(number int) api.Scalar { return l[number] }
}

func areMet(eqs []api.Equation, secret told) bool {
	for _, q := range eqs {
		if total(partsOf(q, secret)) != q.Left {
			return false
		}
	}
	return true
}

func partsOf(q api.Equation, secret told) []api.Term {
	var l []api.Term
	for _, part := range q.Parts {
		l = append(l, api.Term{K: secret(part.Secret), P: part.Base})
	}
	return l
}

// total is asked of an equation's terms alone, which are few and may be: so there is no error.
func total(l []api.Term) api.Point {
	p, _ := algebra.Sum(l...)
	return p
}

func areNumbersRight(label string, eqs []api.Equation, secrets int) bool {
	if len(label) > maxLabel || !isWithin(len(eqs), api.MaxEquations) || !isWithin(secrets, api.MaxSecrets) {
		return false
	}
	for _, q := range eqs {
		if !arePartsRight(q.Parts, secrets) {
			return false
		}
	}
	return true
}

func isWithin(n, most int) bool { return 1 <= n && n <= most }

func arePartsRight(parts []api.Part, secrets int) bool {
	if len(parts) > api.MaxParts {
		return false
	}
	for _, part := range parts {
		if part.Secret < 0 || part.Secret >= secrets {
			return false
		}
	}
	return true
}

func areScalars(l []api.Scalar) bool {
	for _, k := range l {
		if !algebra.IsScalar(k) {
			return false
		}
	}
	return true
}

func arePoints(eqs []api.Equation) bool {
	for _, q := range eqs {
		if !algebra.IsPoint(q.Left) {
			return false
		}
		for _, part := range q.Parts {
			if !algebra.IsPoint(part.Base) {
				return false
			}
		}
	}
	return true
}
