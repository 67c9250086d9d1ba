package bound

import (
	"iter"
	"slices"

	"spyglass/api"
)

// Votes returns how many of the bounds of which something is known admit v.
func Votes[T api.Whole](l []api.Bound[T], v T) int {
	n := 0
	for b := range allKnown(l) {
		if Has(b, v) {
			n++
		}
	}
	return n
}

// Fuse returns the least bound with all numbers that at least n - f of the n bounds admit of which something is known.
func Fuse[T api.Whole](l []api.Bound[T], f int) api.Bound[T] {
	n := 0
	for range allKnown(l) {
		n++
	}
	if f < 0 || n <= f {
		return None[T]()
	}
	lo, ok := least(allKnown(l), n-f)
	if !ok {
		return None[T]()
	}
	// The greatest number is the least one of the mirror image; it exists if lo does.
	mirrored, _ := least(negated(allKnown(l)), n-f)
	return Of(lo, -mirrored)
}

// allKnown returns the bounds of l of which something is known.
func allKnown[T api.Whole](l []api.Bound[T]) iter.Seq[api.Bound[T]] {
	return func(yield func(api.Bound[T]) bool) {
		for _, b := range l {
			if known(b) && !yield(b) {
				return
			}
		}
	}
}

// negated returns the bounds of the opposite numbers.
func negated[T api.Whole](l iter.Seq[api.Bound[T]]) iter.Seq[api.Bound[T]] {
	return func(yield func(api.Bound[T]) bool) {
		for b := range l {
			if !yield(Neg(b)) {
				return
			}
		}
	}
}

// least returns the least number that at least need of the known bounds of l admit; it reports false if there is none.
func least[T api.Whole](l iter.Seq[api.Bound[T]], need int) (T, bool) {
	var los, his []T
	for b := range l {
		los, his = append(los, b.Lo), append(his, b.Hi)
	}
	slices.Sort(los)
	slices.Sort(his)
	// The number of bounds that admit a number grows at lower ends alone, so one of these is the least number.
	ended := 0
	for i, lo := range los {
		for his[ended] < lo {
			ended++
		}
		if i+1-ended >= need {
			return lo, true
		}
	}
	return 0, false
}
