package big

import "slices"

// Gcd returns the greatest common divisor of a and b.
func Gcd(a, b Int) Int {
	// The divisor may be a or b itself, the memory of which the result must not share.
	return signed(false, slices.Clone(commonDivisor(magnitude(a), magnitude(b))))
}

// commonDivisor returns the greatest common divisor of a and b; it may share memory with them.
func commonDivisor(a, b []uint64) []uint64 {
	if compare(a, b) < 0 {
		a, b = b, a
	}
	for len(b) > 1 {
		if s := foresee(a, b); s.q != 0 {
			a, b = mixed(s.p, a, s.q, b), mixed(s.r, a, s.s, b)
		} else {
			_, rest := divide(a, b)
			a, b = b, rest
		}
	}
	if len(b) == 0 {
		return a
	}
	x, y := b[0], divideWord(slices.Clone(a), b[0])
	for y != 0 {
		x, y = y, x%y
	}
	return []uint64{x}
}

// steps stands for some steps of Euclid's algorithm, which make p*a + q*b and r*a + s*b out of a and b;
// p and q have different signs or one of them is 0, and so have r and s.
type steps struct{ p, q, r, s int64 }

// foresee returns the steps that the first bits of a and b determine; b is at most a, and a has more than 64 bits.
// So Euclid's algorithm needs operations with long numbers only once in many steps.
func foresee(a, b []uint64) steps {
	// With 62 bits, all numbers here and their sums fit.
	shift := bitLen(a) - 62
	x, y := first(a, shift), first(b, shift)
	done := steps{p: 1, s: 1}
	// The quotient of the long numbers lies between the two that are compared: a step is certain if they agree.
	for y+done.r != 0 && y+done.s != 0 {
		quotient := (x + done.p) / (y + done.r)
		if quotient != (x+done.q)/(y+done.s) {
			break
		}
		done = steps{done.r, done.s, done.p - quotient*done.r, done.q - quotient*done.s}
		x, y = y, x-quotient*y
	}
	return done
}

// first returns a / 2^shift, rounded down, which fits.
func first(a []uint64, shift int) int64 {
	if words := shiftRight(a, shift); len(words) > 0 {
		return int64(words[0])
	}
	return 0
}

// mixed returns p*a + q*b, which is not negative; p and q have different signs or one of them is 0.
func mixed(p int64, a []uint64, q int64, b []uint64) []uint64 {
	if q > 0 {
		p, a, q, b = q, b, p, a
	}
	total := make([]uint64, max(len(a), len(b))+1)
	addScaled(total, a, uint64(p))
	subScaled(total, b, uint64(-q))
	return trimmed(total)
}
