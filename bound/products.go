package bound

import (
	"spyglass/api"
	"spyglass/num"
)

// Mul returns the bound of a * b / unit, rounded outward.
func Mul[T api.Whole](a, b api.Bound[T], unit int64) api.Bound[T] {
	if !known(a) || !known(b) {
		return None[T]()
	}
	return Hull(
		Hull(quotient(a.Lo, int64(b.Lo), unit), quotient(a.Lo, int64(b.Hi), unit)),
		Hull(quotient(a.Hi, int64(b.Lo), unit), quotient(a.Hi, int64(b.Hi), unit)),
	)
}

// Div returns the bound of a * unit / b, rounded outward.
func Div[T api.Whole](a, b api.Bound[T], unit int64) api.Bound[T] {
	if !known(a) || unit < 1 || Has(b, 0) {
		return None[T]()
	}
	if b.Hi < 0 {
		// Both signs are changed, since quotient needs a positive divisor.
		a, b = Neg(a), Neg(b)
	}
	return Hull(
		Hull(quotient(a.Lo, unit, int64(b.Lo)), quotient(a.Lo, unit, int64(b.Hi))),
		Hull(quotient(a.Hi, unit, int64(b.Lo)), quotient(a.Hi, unit, int64(b.Hi))),
	)
}

// Scale returns the bound of a * n / d, rounded outward.
func Scale[T api.Whole](a api.Bound[T], n, d int64) api.Bound[T] {
	if !known(a) || !inRange(T(n)) {
		return None[T]()
	}
	return Hull(quotient(a.Lo, n, d), quotient(a.Hi, n, d))
}

// quotient returns the bound of x * n / d, rounded outward; it is unknown if d is less than 1.
// If one end of the bound does not fit, nor does the hull with other quotients: so it may be unknown as well.
func quotient[T api.Whole](x T, n, d int64) api.Bound[T] {
	lo, err := num.MulDiv(int64(x), n, d)
	if err != api.OK {
		return None[T]()
	}
	hi, err := num.MulDivUp(int64(x), n, d)
	if err != api.OK {
		return None[T]()
	}
	return Of(T(lo), T(hi))
}

// Root returns the bound of the square root of a * unit, rounded outward; what is negative counts as 0.
func Root[T api.Whole](a api.Bound[T], unit int64) api.Bound[T] {
	if !known(a) || unit < 1 || a.Hi < 0 {
		return None[T]()
	}
	return Of(T(num.SqrtMul(int64(max(a.Lo, 0)), unit)), T(sqrtMulUp(int64(a.Hi), unit)))
}

// sqrtMulUp returns the square root of a * b, rounded up, for a and b that are not negative.
func sqrtMulUp(a, b int64) int64 {
	root := num.SqrtMul(a, b)
	if num.Product(root, root).Cmp(num.Product(a, b)) < 0 {
		return root + 1
	}
	return root
}
