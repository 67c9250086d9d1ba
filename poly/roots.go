package poly

import (
	"cmp"
	"slices"
	"sort"

	"spyglass/api"
	"spyglass/big"
	"spyglass/frac"
)

// Root is a real root of a polynomial in some unit: it lies from Lo to Hi, and is a root Times times.
type Root struct {
	Lo, Hi int64
	Times  int
}

// Count returns the number of different real roots that are greater than lo and at most hi.
func Count(p Poly, lo, hi api.Frac) (int, api.Errno) {
	if err := Check(p); err != api.OK {
		return 0, err
	}
	for _, x := range []api.Frac{lo, hi} {
		if err := frac.Check(x); err != api.OK {
			return 0, err
		}
	}
	switch {
	case len(p) == 0:
		return 0, api.ErrNone
	case frac.Cmp(lo, hi) > 0:
		return 0, api.ErrOrder
	}
	chain := sturm(p)
	return changesAt(chain, lo.Num, lo.Den) - changesAt(chain, hi.Num, hi.Den), api.OK
}

// Roots returns the different real roots of p: each one lies from Lo/unit to Hi/unit.
func Roots(p Poly, unit int64) ([]Root, api.Errno) {
	if err := Check(p); err != api.OK {
		return nil, err
	}
	switch {
	case unit < 1 || unit > api.MaxNum:
		return nil, api.ErrArg
	case len(p) == 0:
		return nil, api.ErrNone
	}
	var roots []Root
	for i, part := range parts(p) {
		found, fit := simple(part, unit)
		if !fit {
			return nil, api.ErrLarge
		}
		for _, r := range found {
			roots = append(roots, Root{r.Lo, r.Hi, i + 1})
		}
	}
	slices.SortFunc(roots, func(a, b Root) int {
		return cmp.Or(cmp.Compare(a.Lo, b.Lo), cmp.Compare(a.Hi, b.Hi), cmp.Compare(a.Times, b.Times))
	})
	return roots, api.OK
}

// simple returns the real roots of p, which has none of them twice, in no particular order;
// it reports false if one of them is out of range.
func simple(p Poly, unit int64) ([]Root, bool) {
	chain := sturm(p)
	before, after := changesFar(chain, -1), changesFar(chain, 1)
	inside := changesAt(chain, -api.MaxNum, unit) - changesAt(chain, api.MaxNum, unit)
	if signAt(p, -api.MaxNum, unit) == 0 {
		inside++
	}
	if inside != before-after {
		return nil, false
	}
	var roots []Root
	// search finds the roots that are greater than lo/unit and at most hi/unit, from the changes of sign at both places.
	var search func(lo, hi int64, before, after int)
	search = func(lo, hi int64, before, after int) {
		count := before - after
		switch {
		case count == 0:
		case count == 1 || hi-lo == 1:
			roots = append(roots, settled(p, unit, lo, hi, count)...)
		default:
			middle := lo + (hi-lo)/2
			between := changesAt(chain, middle, unit)
			search(lo, middle, before, between)
			search(middle, hi, between, after)
		}
	}
	search(-api.MaxNum-1, api.MaxNum, before, after)
	return roots, true
}

// settled returns the roots of p, which has none of them twice, that are greater than lo/unit and at most hi/unit, and of which
// the number is known; it is 1 unless lo and hi are neighbours.
func settled(p Poly, unit, lo, hi int64, count int) []Root {
	// The sign of p changes at a single root: behind it, it is that at hi.
	// It is much quicker to find the root so than by counting.
	sign := signAt(p, hi, unit)
	hi = lo + 1 + int64(sort.Search(int(hi-lo-1), func(i int) bool {
		s := signAt(p, lo+1+int64(i), unit)
		return s == 0 || s == sign
	}))
	roots := slices.Repeat([]Root{{Lo: hi - 1, Hi: hi}}, count)
	if signAt(p, hi, unit) == 0 {
		roots[0].Lo = hi
	}
	return roots
}

// sturm returns Sturm's chain of polynomials for the real roots of p, which is not 0: as x grows, the number of changes of sign
// in the chain falls by 1 whenever x reaches such a root, and stays the same elsewhere.
func sturm(p Poly) []Poly {
	chain := remainders(p, derivative(p))
	if divisor := chain[len(chain)-1]; len(divisor) > 1 {
		// At a root that p has several times, the whole chain is 0: so each factor is kept only once.
		return sturm(quotient(p, primitive(divisor)))
	}
	return chain
}

// changes returns how often the sign, which a function says for each polynomial, changes in a chain; 0 does not count.
func changes(chain []Poly, sign func(Poly) int) int {
	count, before := 0, 0
	for _, p := range chain {
		s := sign(p)
		if s*before < 0 {
			count++
		}
		if s != 0 {
			before = s
		}
	}
	return count
}

// changesAt returns the changes of sign at n/d; d is at least 1.
func changesAt(chain []Poly, n, d int64) int {
	return changes(chain, func(p Poly) int { return signAt(p, n, d) })
}

// changesFar returns the changes of sign behind all roots if side is 1, and ahead of all of them if it is -1.
func changesFar(chain []Poly, side int) int {
	return changes(chain, func(p Poly) int {
		// So far away, a polynomial has the sign of its highest power.
		if len(p)%2 == 0 {
			return side * big.Sign(last(p))
		}
		return big.Sign(last(p))
	})
}
