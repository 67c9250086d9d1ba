// Package num has arithmetic of 64-bit whole numbers with exact intermediate results.
package num

import (
	"math"
	"math/bits"

	"spyglass/api"
)

// Add returns a + b; it reports false if that does not fit into 64 bits.
func Add(a, b int64) (int64, bool) {
	sum := a + b
	// Only terms of one sign can overflow, and then the sum has the other one.
	if (a^sum)&(b^sum) < 0 {
		return 0, false
	}
	return sum, true
}

// Sub returns a - b; it reports false if that does not fit into 64 bits.
func Sub(a, b int64) (int64, bool) {
	diff := a - b
	// Only terms of different signs can overflow, and then the sign of a is lost.
	if (a^b)&(a^diff) < 0 {
		return 0, false
	}
	return diff, true
}

// Mul returns a * b; it reports false if that does not fit into 64 bits.
func Mul(a, b int64) (int64, bool) {
	w := Product(a, b)
	if w.Hi != int64(w.Lo)>>63 {
		return 0, false
	}
	return int64(w.Lo), true
}

// FloorDiv returns the quotient of a and b, rounded down; if b is less than 1, it returns 0.
func FloorDiv(a, b int64) int64 {
	if b < 1 {
		return 0
	}
	if a%b < 0 {
		return a/b - 1
	}
	return a / b
}

// CeilDiv returns the quotient of a and b, rounded up; if b is less than 1, it returns 0.
func CeilDiv(a, b int64) int64 {
	if b < 1 {
		return 0
	}
	if a%b > 0 {
		return a/b + 1
	}
	return a / b
}

// RoundDiv returns the whole number that is nearest to the quotient of a and b, of two of them the one that is farther from 0; if b is less than 1, it returns 0.
func RoundDiv(a, b int64) int64 {
	if b < 1 {
		return 0
	}
	quotient, rest := a/b, a%b
	// The rest is compared with what it lacks to b, since twice the rest may not fit.
	switch {
	case rest > 0 && rest >= b-rest:
		return quotient + 1
	case rest < 0 && -rest >= b+rest:
		return quotient - 1
	}
	return quotient
}

// Mod returns the remainder of the division of a by b, which is from 0 to b - 1; if b is less than 1, it returns 0.
func Mod(a, b int64) int64 {
	if b < 1 {
		return 0
	}
	if rest := a % b; rest < 0 {
		return rest + b
	}
	return a % b
}

// MulDiv returns a * b / c, rounded down.
func MulDiv(a, b, c int64) (int64, api.Errno) {
	return Product(a, b).Div(c)
}

// MulDivUp returns a * b / c, rounded up.
func MulDivUp(a, b, c int64) (int64, api.Errno) {
	if c < 1 {
		return 0, api.ErrArg
	}
	// Negating the product, dividing and negating again would refuse -2^63, which fits.
	return Product(a, b).Plus(Wide{Lo: uint64(c - 1)}).Div(c)
}

// Gcd returns the greatest common divisor of the absolute values of a and b; if it is 2^63, it returns 0.
func Gcd(a, b int64) int64 {
	m, n := size(a), size(b)
	for n != 0 {
		m, n = n, m%n
	}
	if m > math.MaxInt64 {
		return 0
	}
	return int64(m)
}

// size returns the absolute value of a; unlike -a, that of -2^63 is right.
func size(a int64) uint64 {
	if a < 0 {
		return -uint64(a)
	}
	return uint64(a)
}

// Sqrt returns the square root of a, rounded down; if a is negative, it returns 0.
func Sqrt(a int64) int64 { return SqrtMul(a, 1) }

// SqrtMul returns the square root of a * b, rounded down; if a or b is negative, it returns 0.
func SqrtMul(a, b int64) int64 {
	if a <= 0 || b <= 0 {
		return 0
	}
	hi, lo := bits.Mul64(uint64(a), uint64(b))
	// Newton's method from above falls until it reaches the result and never goes below it.
	// So hi is less than root in every division, as Div64 demands, and the sum fits.
	root := uint64(1) << ((bitLen(hi, lo) + 1) / 2)
	for {
		quotient, _ := bits.Div64(hi, lo, root)
		next := (root + quotient) / 2
		if next >= root {
			return int64(root)
		}
		root = next
	}
}

// bitLen returns the number of bits of hi * 2^64 + lo.
func bitLen(hi, lo uint64) int {
	if hi != 0 {
		return 64 + bits.Len64(hi)
	}
	return bits.Len64(lo)
}
