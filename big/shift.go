package big

import "spyglass/api"

// Shift returns a * 2^k, rounded down.
func Shift(a Int, k int) (Int, api.Errno) {
	words := magnitude(a)
	switch {
	case k < -MaxBits || k > MaxBits:
		return Int{}, api.ErrRange
	case k >= 0:
		return limited(Sign(a) < 0, shiftLeft(words, k))
	}
	shifted := shiftRight(words, -k)
	// The bits that were shifted out make the absolute value less, but a negative number is rounded the other way.
	if Sign(a) < 0 && compare(shiftLeft(shifted, -k), words) < 0 {
		shifted = sum(shifted, []uint64{1})
	}
	return signed(Sign(a) < 0, shifted), api.OK
}

// Sqrt returns the square root of a, rounded down.
func Sqrt(a Int) (Int, api.Errno) {
	switch Sign(a) {
	case -1:
		return Int{}, api.ErrRange
	case 0:
		return Int{}, api.OK
	}
	words := magnitude(a)
	// Newton's method from above falls until it reaches the result and never goes below it.
	root := shiftLeft([]uint64{1}, (bitLen(words)+1)/2)
	for {
		quotient, _ := divide(words, root)
		next := shiftRight(sum(root, quotient), 1)
		if compare(next, root) >= 0 {
			return signed(false, root), api.OK
		}
		root = next
	}
}
