package big

import (
	"math"
	"math/bits"
	"slices"

	"spyglass/api"
)

// DivMod returns q and r with a = q * b + r and 0 <= r < |b|.
func DivMod(a, b Int) (Int, Int, api.Errno) {
	if Sign(b) == 0 {
		return Int{}, Int{}, api.ErrArg
	}
	quotient, rest := divide(magnitude(a), magnitude(b))
	if Sign(a) < 0 && len(rest) > 0 {
		quotient, rest = sum(quotient, []uint64{1}), difference(magnitude(b), rest)
	}
	return signed(Sign(a) != Sign(b), quotient), signed(false, rest), api.OK
}

// divide returns the quotient of a and b, rounded down, and what remains; b is not 0.
func divide(a, b []uint64) ([]uint64, []uint64) {
	switch {
	case compare(a, b) < 0:
		return nil, slices.Clone(a)
	case len(b) == 1:
		quotient := slices.Clone(a)
		rest := divideWord(quotient, b[0])
		return trimmed(quotient), trimmed([]uint64{rest})
	}
	// This is long division with words as digits. The first word of the divisor is made at least 2^63:
	// only then do the first words say almost exactly what the next word of the quotient is.
	shift := bits.LeadingZeros64(b[len(b)-1])
	divisor := shiftLeft(b, shift)
	rest := append(shiftLeft(a, shift), 0)
	quotient := make([]uint64, len(rest)-len(divisor))
	for i := len(quotient) - 1; i >= 0; i-- {
		quotient[i] = divideOnce(rest[i:i+len(divisor)+1], divisor)
	}
	return trimmed(quotient), shiftRight(trimmed(rest), shift)
}

// divideWord replaces a by its quotient by d, which is not 0, and returns what remains.
func divideWord(a []uint64, d uint64) uint64 {
	var rest uint64
	for i := len(a) - 1; i >= 0; i-- {
		a[i], rest = bits.Div64(rest, a[i], d)
	}
	return rest
}

// divideOnce returns the quotient of rest and divisor, which is less than 2^64, and leaves what remains in rest.
func divideOnce(rest, divisor []uint64) uint64 {
	quotient := guess(rest[len(rest)-3:], divisor[len(divisor)-2:])
	borrow := subScaled(rest, divisor, quotient)
	for borrow != 0 {
		quotient--
		borrow -= addScaled(rest, divisor, 1)
	}
	return quotient
}

// guess returns a number that is at least the quotient of two numbers and hardly ever greater;
// it knows the first three words of the dividend and the first two of the divisor.
func guess(dividend, divisor []uint64) uint64 {
	if dividend[2] >= divisor[1] {
		return math.MaxUint64
	}
	quotient, rest := bits.Div64(dividend[2], dividend[1], divisor[1])
	hi, lo := bits.Mul64(quotient, divisor[0])
	for hi > rest || hi == rest && lo > dividend[0] {
		var carry, borrow uint64
		quotient--
		lo, borrow = bits.Sub64(lo, divisor[0], 0)
		hi -= borrow
		rest, carry = bits.Add64(rest, divisor[1], 0)
		if carry != 0 {
			break
		}
	}
	return quotient
}
