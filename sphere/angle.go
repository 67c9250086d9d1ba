package sphere

import (
	"spyglass/api"
	"spyglass/big"
	"spyglass/bound"
	"spyglass/trig"
)

// whole stands for 1 in squares of sines and cosines.
const whole = api.One * api.One

// Cosine returns the bound of the cosine of the angle between two directions.
func Cosine(a, b api.Vec) api.Bound[api.Fix] {
	if Check(a) != api.OK || Check(b) != api.OK {
		return bound.None[api.Fix]()
	}
	// The whole numbers next to a root are those next to the roots of the whole numbers below and above its square.
	size := bound.Root(bound.As[api.Fix](squaredCosine(a, b)), 1)
	if dot(a, b) < 0 {
		return bound.Neg(size)
	}
	return size
}

// dot returns the scalar product of two vectors of small numbers.
func dot(a, b api.Vec) int64 { return a.X*b.X + a.Y*b.Y + a.Z*b.Z }

// squaredCosine returns the whole numbers next to the squared cosine of the angle between two directions, or the number itself if it is whole.
// With these, every comparison of the squared cosine with a whole number has its exact result.
func squaredCosine(a, b api.Vec) api.Bound[int64] {
	d := dot(a, b)
	quotient, rest, _ := big.DivMod(multiply(d, d, whole), multiply(dot(a, a), dot(b, b)))
	lo, _ := big.Small(quotient)
	if big.Sign(rest) == 0 {
		return bound.Exact(lo)
	}
	return bound.Of(lo, lo+1)
}

// multiply returns the product of a few numbers.
func multiply(factors ...int64) big.Int {
	n := big.Of(1)
	for _, f := range factors {
		n, _ = big.Mul(n, big.Of(f))
	}
	return n
}

// Within reports whether the angle between two directions is at most r.
func Within(a, b api.Vec, r api.Arc) bool {
	if Check(a) != api.OK || Check(b) != api.OK || r < 0 {
		return false
	}
	return atMost(dot(a, b), squaredCosine(a, b), r)
}

// atMost reports whether the angle between two directions, with a scalar product and a squared cosine, is at most r, which is not negative.
func atMost(d int64, square api.Bound[int64], r api.Arc) bool {
	sin, cos := int64(trig.Sin(r)), int64(trig.Cos(r))
	// Near 0 and half a turn the sine changes faster than the cosine, and tells the angle more exactly.
	switch {
	case r >= half:
		return true
	case r <= eighth:
		return d > 0 && whole-square.Lo <= sin*sin
	case r > 3*eighth:
		return d >= 0 || whole-square.Hi >= sin*sin
	case cos > 0:
		return d > 0 && square.Lo >= cos*cos
	}
	return d >= 0 || square.Hi <= cos*cos
}

// Separation returns the least r for which the angle between two directions is within r.
func Separation(a, b api.Vec) (api.Arc, api.Errno) {
	if err := Check(a); err != api.OK {
		return 0, err
	}
	if err := Check(b); err != api.OK {
		return 0, err
	}
	d, square := dot(a, b), squaredCosine(a, b)
	lo, hi := api.Arc(0), api.Arc(half)
	for lo < hi {
		middle := lo + (hi-lo)/2
		if atMost(d, square, middle) {
			hi = middle
		} else {
			lo = middle + 1
		}
	}
	return lo, api.OK
}

// Nearer returns -1 if the angle between a and b is smaller than that between c and d, 1 if it is larger, and 0 if they are equal.
func Nearer(a, b, c, d api.Vec) int {
	for _, v := range []api.Vec{a, b, c, d} {
		if Check(v) != api.OK {
			return 0
		}
	}
	// Squares with the signs of the cosines, both over one denominator; the larger cosine is that of the smaller angle.
	p, q := dot(a, b), dot(c, d)
	return big.Cmp(multiply(q, max(q, -q), dot(a, a), dot(b, b)), multiply(p, max(p, -p), dot(c, c), dot(d, d)))
}
