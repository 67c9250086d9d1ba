package num

import (
	"cmp"
	"math"
	"math/bits"

	"spyglass/api"
)

// Wide is the whole number Hi * 2^64 + Lo.
type Wide struct {
	Hi int64
	Lo uint64
}

// Product returns a * b.
func Product(a, b int64) Wide {
	hi, lo := bits.Mul64(uint64(a), uint64(b))
	high := int64(hi)
	// As unsigned numbers, negative ones are too large by 2^64.
	if a < 0 {
		high -= b
	}
	if b < 0 {
		high -= a
	}
	return Wide{Hi: high, Lo: lo}
}

// Neg returns -w, modulo 2^128.
func (w Wide) Neg() Wide {
	return w.flip().Plus(Wide{Lo: 1})
}

// flip returns -w - 1, which fits for every w.
func (w Wide) flip() Wide { return Wide{Hi: ^w.Hi, Lo: ^w.Lo} }

// Plus returns w + v, modulo 2^128.
func (w Wide) Plus(v Wide) Wide {
	lo, carry := bits.Add64(w.Lo, v.Lo, 0)
	return Wide{Hi: w.Hi + v.Hi + int64(carry), Lo: lo}
}

// Cmp returns -1 if w is less than v, 0 if they are equal, and 1 if w is greater.
func (w Wide) Cmp(v Wide) int {
	if w.Hi != v.Hi {
		return cmp.Compare(w.Hi, v.Hi)
	}
	return cmp.Compare(w.Lo, v.Lo)
}

// Mod returns the remainder of the division of w by d, which is from 0 to d - 1; if d is less than 1, it returns 0.
func (w Wide) Mod(d int64) int64 {
	if d < 1 {
		return 0
	}
	if w.Hi < 0 {
		// The remainders of w and -w - 1 add up to d - 1.
		return d - 1 - w.flip().Mod(d)
	}
	return int64(bits.Rem64(uint64(w.Hi), w.Lo, uint64(d)))
}

// Div returns the quotient of w and d, rounded down.
func (w Wide) Div(d int64) (int64, api.Errno) {
	if d < 1 {
		return 0, api.ErrArg
	}
	if w.Hi < 0 {
		// The quotients of w and -w - 1, both rounded down, add up to -1.
		quotient, err := w.flip().Div(d)
		if err != api.OK {
			return 0, err
		}
		return ^quotient, api.OK
	}
	if w.Hi >= d {
		return 0, api.ErrLarge
	}
	quotient, _ := bits.Div64(uint64(w.Hi), w.Lo, uint64(d))
	if quotient > math.MaxInt64 {
		return 0, api.ErrLarge
	}
	return int64(quotient), api.OK
}
