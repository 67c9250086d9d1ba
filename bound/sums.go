package bound

import (
	"iter"
	"slices"

	"spyglass/api"
)

// In this file, ends are added and negated without a check of the machine's limits:
// they are at most MaxNum, so every result fits into 64 bits, and Of refuses those beyond MaxNum.

// Add returns the bound of a + b.
func Add[T api.Whole](a, b api.Bound[T]) api.Bound[T] {
	if !known(a) || !known(b) {
		return None[T]()
	}
	return Of(a.Lo+b.Lo, a.Hi+b.Hi)
}

// Neg returns the bound of -b.
func Neg[T api.Whole](b api.Bound[T]) api.Bound[T] {
	if !known(b) {
		return None[T]()
	}
	return Of(-b.Hi, -b.Lo)
}

// Sub returns the bound of a - b.
func Sub[T api.Whole](a, b api.Bound[T]) api.Bound[T] { return Add(a, Neg(b)) }

// Min returns the bound of the smaller one of two numbers.
func Min[T api.Whole](a, b api.Bound[T]) api.Bound[T] {
	if !known(a) || !known(b) {
		return None[T]()
	}
	return Of(min(a.Lo, b.Lo), min(a.Hi, b.Hi))
}

// Max returns the bound of the larger one of two numbers.
func Max[T api.Whole](a, b api.Bound[T]) api.Bound[T] {
	if !known(a) || !known(b) {
		return None[T]()
	}
	return Of(max(a.Lo, b.Lo), max(a.Hi, b.Hi))
}

// Abs returns the bound of the absolute value.
func Abs[T api.Whole](b api.Bound[T]) api.Bound[T] {
	if !known(b) {
		return None[T]()
	}
	return Of(max(0, b.Lo, -b.Hi), max(-b.Lo, b.Hi))
}

// Hull returns the least bound that admits what a or b admits.
func Hull[T api.Whole](a, b api.Bound[T]) api.Bound[T] {
	if !known(a) || !known(b) {
		return None[T]()
	}
	return Of(min(a.Lo, b.Lo), max(a.Hi, b.Hi))
}

// Meet returns the bound of what both a and b admit; it reports false if there is no such number.
func Meet[T api.Whole](a, b api.Bound[T]) (api.Bound[T], bool) {
	switch {
	case !known(a):
		return Norm(b), true
	case !known(b):
		return a, true
	case Cmp(a, b) != 0:
		return api.Bound[T]{}, false
	}
	return Of(max(a.Lo, b.Lo), min(a.Hi, b.Hi)), true
}

// Sum returns the bound of the sum of numbers.
func Sum[T api.Whole](l []api.Bound[T]) api.Bound[T] { return Total(slices.Values(l)) }

// Total returns the bound of the sum of numbers; it stops at the first partial sum of which nothing is known.
func Total[T api.Whole](l iter.Seq[api.Bound[T]]) api.Bound[T] {
	var sum api.Bound[T]
	if l == nil {
		return sum
	}
	// A for loop would panic if l went on after it is stopped; here, an unknown sum only stays unknown.
	l(func(b api.Bound[T]) bool {
		sum = Add(sum, b)
		return !sum.Unknown
	})
	return sum
}
