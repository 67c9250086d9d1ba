package bound_test

import (
	"slices"
	"testing"

	"spyglass/api"
	"spyglass/bound"
)

// P2.4: hand-written results, the limits, and unknown arguments.
func TestSums(t *testing.T) {
	x, y, whole := fix{Lo: -2, Hi: 5}, fix{Lo: 3, Hi: 4}, fix{Lo: -top, Hi: top}
	for i, c := range []struct{ got, want fix }{
		{bound.Add(x, y), fix{Lo: 1, Hi: 9}},
		{bound.Add(fix{Lo: top - 1, Hi: top - 1}, fix{Hi: 1}), fix{Lo: top - 1, Hi: top}},
		{bound.Add(fix{Lo: top - 1, Hi: top - 1}, fix{Hi: 2}), none},
		{bound.Add(fix{Lo: -top, Hi: 5}, fix{Lo: -1}), none},
		{bound.Add(whole, whole), none},
		{bound.Add(whole, fix{}), whole},
		{bound.Neg(x), fix{Lo: -5, Hi: 2}},
		{bound.Neg(whole), whole},
		{bound.Sub(x, y), fix{Lo: -6, Hi: 2}},
		{bound.Sub(x, x), fix{Lo: -7, Hi: 7}},
		{bound.Sub(fix{Lo: -top}, fix{Hi: 1}), none},
		{bound.Sub(fix{Hi: top}, fix{Lo: -1}), none},
		{bound.Min(x, y), fix{Lo: -2, Hi: 4}},
		{bound.Max(x, y), fix{Lo: 3, Hi: 5}},
		{bound.Abs(x), fix{Hi: 5}},
		{bound.Abs(fix{Lo: -5, Hi: 2}), fix{Hi: 5}},
		{bound.Abs(fix{Lo: -9, Hi: -4}), fix{Lo: 4, Hi: 9}},
		{bound.Abs(y), y},
		{bound.Abs(fix{Lo: -3}), fix{Hi: 3}},
		{bound.Abs(whole), fix{Hi: top}},
		{bound.Hull(x, fix{Lo: 7, Hi: 8}), fix{Lo: -2, Hi: 8}},
		{bound.Hull(fix{Lo: -top, Hi: -top}, fix{Lo: top, Hi: top}), whole},
	} {
		if c.got != c.want {
			t.Errorf("case %d: got %v, want %v", i, c.got, c.want)
		}
	}
	for _, f := range twos() {
		for _, b := range far() {
			if f.f(none, b) != none || f.f(b, none) != none {
				t.Errorf("%s of %v and an unknown bound is known", f.name, b)
			}
		}
	}
	for _, f := range ones() {
		if f.f(none) != none {
			t.Errorf("%s of an unknown bound is known", f.name)
		}
	}
}

// pairs are the functions that are specified by their results for numbers, with these results.
func pairs() map[string]func(x, y api.Fix) []api.Fix {
	return map[string]func(x, y api.Fix) []api.Fix{
		"Add":   func(x, y api.Fix) []api.Fix { return []api.Fix{x + y} },
		"Sum":   func(x, y api.Fix) []api.Fix { return []api.Fix{x + y} },
		"Total": func(x, y api.Fix) []api.Fix { return []api.Fix{x + y} },
		"Sub":   func(x, y api.Fix) []api.Fix { return []api.Fix{x - y} },
		"Min":   func(x, y api.Fix) []api.Fix { return []api.Fix{min(x, y)} },
		"Max":   func(x, y api.Fix) []api.Fix { return []api.Fix{max(x, y)} },
		"Hull":  func(x, y api.Fix) []api.Fix { return []api.Fix{x, y} },
	}
}

// P2.4, P2.6, P2.10: comparison with the results for all numbers that small bounds admit.
func TestSumsExact(t *testing.T) {
	for _, f := range twos() {
		exact := pairs()[f.name]
		if exact == nil {
			continue
		}
		for _, a := range small() {
			for _, b := range small() {
				if a.Unknown || b.Unknown {
					continue
				}
				var results []api.Fix
				for _, x := range numbers(a) {
					for _, y := range numbers(b) {
						results = append(results, exact(x, y)...)
					}
				}
				if got := f.f(a, b); got != around(results) {
					t.Errorf("%s(%v, %v) is %v, not %v", f.name, a, b, got, around(results))
				}
			}
		}
	}
	for _, a := range small() {
		var negated, sizes []api.Fix
		for _, x := range numbers(a) {
			negated, sizes = append(negated, -x), append(sizes, max(x, -x))
		}
		if !a.Unknown && (bound.Neg(a) != around(negated) || bound.Abs(a) != around(sizes)) {
			t.Errorf("Neg and Abs of %v: %v, %v", a, bound.Neg(a), bound.Abs(a))
		}
	}
}

// P2.4: near the limits, the extremes of monotone functions are taken at the ends.
func TestSumsFar(t *testing.T) {
	for _, f := range twos() {
		exact := pairs()[f.name]
		if exact == nil {
			continue
		}
		for _, a := range far() {
			for _, b := range far() {
				if a.Unknown || b.Unknown {
					continue
				}
				var results []api.Fix
				for _, x := range []api.Fix{a.Lo, a.Hi} {
					for _, y := range []api.Fix{b.Lo, b.Hi} {
						results = append(results, exact(x, y)...)
					}
				}
				if got := f.f(a, b); got != around(results) {
					t.Errorf("%s(%v, %v) is %v, not %v", f.name, a, b, got, around(results))
				}
			}
		}
	}
}

// P2.5: bounds that overlap, touch or are apart, and unknown ones.
func TestMeet(t *testing.T) {
	for _, a := range small() {
		for _, b := range small() {
			want, ok := fix{}, true
			switch {
			case a.Unknown:
				want = b
			case b.Unknown:
				want = a
			default:
				common := slices.DeleteFunc(numbers(a), func(x api.Fix) bool { return !bound.Has(b, x) })
				if ok = len(common) > 0; ok {
					want = around(common)
				}
			}
			if got, k := bound.Meet(a, b); got != want || k != ok {
				t.Errorf("Meet(%v, %v): got %v, %v, want %v, %v", a, b, got, k, want, ok)
			}
		}
	}
	for _, a := range invalid() {
		for _, b := range small() {
			if got, ok := bound.Meet(a, b); got != b || !ok {
				t.Errorf("Meet(%v, %v): got %v, %v", a, b, got, ok)
			}
			if got, ok := bound.Meet(b, a); got != b || !ok {
				t.Errorf("Meet(%v, %v): got %v, %v", b, a, got, ok)
			}
		}
		for _, b := range invalid() {
			if got, ok := bound.Meet(a, b); got != none || !ok {
				t.Errorf("Meet(%v, %v): got %v, %v", a, b, got, ok)
			}
		}
	}
}

// total is a list with its sum; after used bounds, nothing more is asked for.
type total struct {
	list []fix
	sum  fix
	used int
}

// totals returns lists whose sums are known, and lists with an unknown bound or an unknown partial sum.
func totals() []total {
	high, low := fix{Lo: top, Hi: top}, fix{Lo: -top, Hi: -top}
	return []total{
		{nil, fix{}, 0},
		{[]fix{}, fix{}, 0},
		{[]fix{{Lo: -2, Hi: 5}}, fix{Lo: -2, Hi: 5}, 1},
		{[]fix{{Lo: -2, Hi: 5}, {Lo: 3, Hi: 4}, {Lo: 3, Hi: 4}}, fix{Lo: 4, Hi: 13}, 3},
		{[]fix{high, low, high}, high, 3},
		{[]fix{high, {Lo: 1, Hi: 1}, {Lo: -5, Hi: -5}}, none, 2},
		{[]fix{low, {Lo: -1}, {Hi: 1}}, none, 2},
		{[]fix{none, {Lo: 1, Hi: 1}}, none, 1},
		{[]fix{{Lo: 1, Hi: 1}, none, none}, none, 2},
		{[]fix{{Lo: 1, Hi: 1}, {Lo: 2, Hi: 2}, none}, none, 3},
		{[]fix{{}, {Lo: 3, Hi: 2}, {}}, none, 2},
		{[]fix{{}, {Lo: 1, Hi: 1, Unknown: true}, {}}, none, 2},
		{[]fix{{}, {Hi: top + 1}, {}}, none, 2},
	}
}

// P2.6: sums of lists, partial sums beyond the limits, and the stop of the iterator.
func TestSumTotal(t *testing.T) {
	for i, c := range totals() {
		if sum := bound.Sum(c.list); sum != c.sum {
			t.Errorf("case %d: Sum is %v, not %v", i, sum, c.sum)
		}
		used, stopped := 0, false
		sum := bound.Total(func(yield func(fix) bool) {
			for _, b := range c.list {
				used++
				if stopped = !yield(b); stopped {
					return
				}
			}
		})
		if sum != c.sum || used != c.used || stopped != c.sum.Unknown {
			t.Errorf("case %d: Total is %v after %d bounds, stopped %v", i, sum, used, stopped)
		}
	}
}

// P2.6: a long iterator is stopped as soon as the sum is out of range.
func TestTotalLong(t *testing.T) {
	n := 0
	sum := bound.Total(func(yield func(fix) bool) {
		for n < 1000 && yield(fix{Lo: 1, Hi: top / 4}) {
			n++
		}
	})
	if sum != none || n != 4 {
		t.Errorf("Total is %v after %d sums", sum, n)
	}
}

// P2.6, Z1: there is no panic without an iterator, or if it goes on after the stop.
func TestTotalOdd(t *testing.T) {
	if sum := bound.Total[api.Fix](nil); sum != (fix{}) {
		t.Errorf("Total of no iterator is %v", sum)
	}
	deaf := func(yield func(fix) bool) {
		for _, b := range []fix{{Lo: 1, Hi: 1}, none, {Lo: 2, Hi: 2}, {Lo: 3, Hi: 3}} {
			yield(b)
		}
	}
	if sum := bound.Total(deaf); sum != none {
		t.Errorf("Total is %v after the stop", sum)
	}
}
