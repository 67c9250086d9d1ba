package frac

import (
	"spyglass/api"
	"spyglass/num"
)

// MaxBest is the greatest denominator that Best is asked for.
const MaxBest = 4096

// Terms returns the terms of the continued fraction of a number.
func Terms(x api.Frac) ([]int64, api.Errno) {
	if err := Check(x); err != api.OK {
		return nil, err
	}
	var terms []int64
	for n, d := x.Num, x.Den; d != 0; n, d = d, num.Mod(n, d) {
		terms = append(terms, num.FloorDiv(n, d))
	}
	return terms, api.OK
}

// From returns the number with the terms of a continued fraction.
func From(terms []int64) (api.Frac, api.Errno) {
	if err := checkTerms(terms); err != api.OK {
		return api.Frac{}, err
	}
	// From the last term on, 1/0 stands for the part behind it, which is missing.
	x := api.Frac{Num: 1}
	for i := len(terms) - 1; i >= 0; i-- {
		// The numerators of the further terms only grow, up to the denominator of the result:
		// so if one of them is too large, the result is, and the loop ends soon, however many terms there are.
		product, fits := num.Mul(terms[i], x.Num)
		sum, fitsToo := num.Add(product, x.Den)
		next, err := limited(sum, x.Num)
		if !fits || !fitsToo || err != api.OK {
			return api.Frac{}, api.ErrLarge
		}
		x = next
	}
	return x, api.OK
}

// checkTerms validates the terms of a continued fraction.
func checkTerms(terms []int64) api.Errno {
	if len(terms) == 0 {
		return api.ErrNone
	}
	least := int64(-api.MaxNum)
	for _, term := range terms {
		if term < least || term > api.MaxNum {
			return api.ErrRange
		}
		least = 1
	}
	if len(terms) > 1 && terms[len(terms)-1] == 1 {
		return api.ErrForm
	}
	return api.OK
}

// Best returns the number with a denominator of at most most that is nearest to x.
func Best(x api.Frac, most int64) (api.Frac, api.Errno) {
	terms, err := Terms(x)
	if err != api.OK {
		return api.Frac{}, err
	}
	if most < 1 || most > MaxBest {
		return api.Frac{}, api.ErrRange
	}
	// These numbers, made of fewer terms, come ever nearer to x; 1/0 stands ahead of the first one.
	before, last := api.Frac{Num: 1}, api.Frac{Num: terms[0], Den: 1}
	for _, term := range terms[1:] {
		steps := min(term, (most-before.Den)/last.Den)
		next := api.Frac{Num: before.Num + steps*last.Num, Den: before.Den + steps*last.Den}
		if steps < term {
			// Both enclose x, and no permitted number lies between them.
			return nearer(x, last, next), api.OK
		}
		before, last = last, next
	}
	return last, api.OK
}

// nearer returns that one of last and next, which enclose x, that is nearer to x.
// If both are equally near, it is last: this has the smaller denominator, or both are whole and last is Floor(x).
func nearer(x, last, next api.Frac) api.Frac {
	if num.Product(gap(next, x), last.Den).Cmp(num.Product(gap(last, x), next.Den)) < 0 {
		return next
	}
	return last
}

// gap returns the distance of a and x, times both denominators.
// For last and next that is at most the denominator of x, so it fits.
func gap(a, x api.Frac) int64 {
	diff := num.Product(a.Num, x.Den).Plus(num.Product(x.Num, a.Den).Neg())
	if diff.Hi < 0 {
		diff = diff.Neg()
	}
	return int64(diff.Lo)
}
