package big

import (
	"cmp"
	"math/bits"
	"slices"
)

// Absolute values are lists of words, the least significant one first; the last one is not 0, and 0 has none.

// trimmed returns words without those at the end that are 0.
func trimmed(words []uint64) []uint64 {
	for len(words) > 0 && words[len(words)-1] == 0 {
		words = words[:len(words)-1]
	}
	return words
}

// bitLen returns the number of bits of a.
func bitLen(a []uint64) int {
	if len(a) == 0 {
		return 0
	}
	return 64*(len(a)-1) + bits.Len64(a[len(a)-1])
}

// compare returns -1 if a is less than b, 0 if they are equal, and 1 if a is greater.
func compare(a, b []uint64) int {
	if len(a) != len(b) {
		return cmp.Compare(len(a), len(b))
	}
	for i := len(a) - 1; i >= 0; i-- {
		if a[i] != b[i] {
			return cmp.Compare(a[i], b[i])
		}
	}
	return 0
}

// sum returns a + b.
func sum(a, b []uint64) []uint64 {
	total := make([]uint64, max(len(a), len(b))+1)
	copy(total, a)
	addScaled(total, b, 1)
	return trimmed(total)
}

// difference returns a - b; b is at most a.
func difference(a, b []uint64) []uint64 {
	rest := slices.Clone(a)
	subScaled(rest, b, 1)
	return trimmed(rest)
}

// product returns a * b.
func product(a, b []uint64) []uint64 {
	total := make([]uint64, len(a)+len(b))
	for i, word := range b {
		addScaled(total[i:], a, word)
	}
	return trimmed(total)
}

// addScaled adds x * a to total, which has no fewer words than a, and returns what is carried out of the last word.
func addScaled(total, a []uint64, x uint64) uint64 {
	var carry uint64
	for i, word := range a {
		// Two words can be added to the product of two words without a carry out of the higher one.
		hi, lo := bits.Mul64(word, x)
		low, c := bits.Add64(lo, carry, 0)
		hi += c
		total[i], c = bits.Add64(total[i], low, 0)
		carry = hi + c
	}
	for i := len(a); carry != 0 && i < len(total); i++ {
		total[i], carry = bits.Add64(total[i], carry, 0)
	}
	return carry
}

// subScaled subtracts x * a from rest, which has no fewer words than a, and returns what is borrowed beyond the last word.
func subScaled(rest, a []uint64, x uint64) uint64 {
	var borrow uint64
	for i, word := range a {
		hi, lo := bits.Mul64(word, x)
		low, c := bits.Add64(lo, borrow, 0)
		hi += c
		rest[i], c = bits.Sub64(rest[i], low, 0)
		borrow = hi + c
	}
	for i := len(a); borrow != 0 && i < len(rest); i++ {
		rest[i], borrow = bits.Sub64(rest[i], borrow, 0)
	}
	return borrow
}

// shiftLeft returns a * 2^k.
func shiftLeft(a []uint64, k int) []uint64 {
	whole, part := k/64, k%64
	shifted := make([]uint64, whole+len(a)+1)
	for i, word := range a {
		shifted[whole+i] |= word << part
		shifted[whole+i+1] = word >> (64 - part)
	}
	return trimmed(shifted)
}

// shiftRight returns a / 2^k, rounded down.
func shiftRight(a []uint64, k int) []uint64 {
	whole, part := k/64, k%64
	if whole >= len(a) {
		return nil
	}
	shifted := slices.Clone(a[whole:])
	for i := range shifted {
		shifted[i] >>= part
		if i+1 < len(shifted) {
			shifted[i] |= shifted[i+1] << (64 - part)
		}
	}
	return trimmed(shifted)
}
