package poly

import (
	"slices"

	"spyglass/api"
	"spyglass/big"
)

// Gcd returns the greatest common divisor of p and q.
func Gcd(p, q Poly) (Poly, api.Errno) {
	if err := checkBoth(p, q); err != api.OK {
		return nil, err
	}
	return limited(common(p, q))
}

// Parts returns for each number i from 1 on the product of the factors that divide p exactly i times.
func Parts(p Poly) ([]Poly, api.Errno) {
	if err := Check(p); err != api.OK {
		return nil, err
	}
	if len(p) == 0 {
		return nil, api.ErrNone
	}
	list := parts(p)
	for _, q := range list {
		if Check(q) != api.OK {
			return nil, api.ErrLarge
		}
	}
	return list, api.OK
}

// parts returns the parts of p, which is not 0, without a limit of their coefficients.
func parts(p Poly) []Poly {
	// The divisor of p and its derivative has each factor of p once less than p.
	p = primitive(p)
	rest := common(p, derivative(p))
	// So this one has each factor of p once; later, each one that p has more often than the parts in the list say.
	once := quotient(p, rest)
	var list []Poly
	for len(once) > 1 {
		more := common(once, rest)
		list = append(list, quotient(once, more))
		once, rest = more, quotient(rest, more)
	}
	return list
}

// common returns the greatest common divisor of p and q, without a limit of its coefficients.
func common(p, q Poly) Poly {
	if len(p) < len(q) {
		p, q = q, p
	}
	list := remainders(p, q)
	return primitive(list[len(list)-1])
}

// primitive returns the primitive multiple of p.
func primitive(p Poly) Poly {
	var divisor big.Int
	for _, c := range p {
		divisor = big.Gcd(divisor, c)
	}
	if len(p) > 0 && big.Sign(last(p)) < 0 {
		divisor = big.Neg(divisor)
	}
	return reduced(p, divisor)
}

// reduced returns p / d; d divides all coefficients.
func reduced(p Poly, d big.Int) Poly {
	result := make(Poly, len(p))
	for i, c := range p {
		result[i] = over(c, d)
	}
	return result
}

// quotient returns p / d; d is primitive and divides p, so that the quotient has whole coefficients.
func quotient(p, d Poly) Poly {
	rest := slices.Clone(p)
	result := make(Poly, len(p)-len(d)+1)
	for i := len(result) - 1; i >= 0; i-- {
		result[i] = over(rest[i+len(d)-1], last(d))
		for j, c := range d {
			rest[i+j] = minus(rest[i+j], times(result[i], c))
		}
	}
	return result
}

// remainders returns p, q and what Euclid's algorithm makes of them up to the last one that is not 0:
// each further polynomial is a negative multiple of the remainder of the two before it. The degree of q is at most that of p.
func remainders(p, q Poly) []Poly {
	list := []Poly{p}
	// By the theory of subresultants, lead and scale say which number divides each remainder.
	// Without the division, the number of bits would double and more with each one.
	lead, scale := big.Of(1), big.Of(1)
	for len(q) > 0 {
		list = append(list, q)
		drop := len(p) - len(q)
		divisor := times(lead, power(scale, drop))
		p, q = q, reduced(remainder(p, q), big.Neg(divisor))
		lead = big.Abs(last(p))
		scale = over(times(scale, power(lead, drop)), power(scale, drop))
	}
	return list
}

// remainder returns the remainder of p and d, times a power of the absolute value of the last coefficient of d
// whose exponent is by 1 greater than the difference of the degrees.
func remainder(p, d Poly) Poly {
	rest := slices.Clone(p)
	lead := big.Abs(last(d))
	for len(rest) >= len(d) {
		head := last(rest)
		if big.Sign(last(d)) < 0 {
			head = big.Neg(head)
		}
		rest = rest[:len(rest)-1]
		for i, c := range rest {
			rest[i] = times(c, lead)
		}
		shift := len(rest) - len(d) + 1
		for i, c := range d[:len(d)-1] {
			rest[shift+i] = minus(rest[shift+i], times(head, c))
		}
	}
	return trimmed(rest)
}
