package frac_test

import (
	"math/big"
	"slices"
	"testing"

	"spyglass/api"
	"spyglass/frac"
)

// P3.7: terms of ordinary numbers, of whole ones and at the limits, and the errors of Check.
func TestTerms(t *testing.T) {
	for _, c := range []struct {
		x    api.Frac
		want []int64
		e    api.Errno
	}{
		{of(-7, 3), []int64{-3, 1, 2}, api.OK},
		{of(7, 3), []int64{2, 3}, api.OK},
		{of(157, 50), []int64{3, 7, 7}, api.OK},
		{of(5, 1), []int64{5}, api.OK},
		{of(1, 1), []int64{1}, api.OK},
		{of(0, 1), []int64{0}, api.OK},
		{of(-5, 1), []int64{-5}, api.OK},
		{of(1, 3), []int64{0, 3}, api.OK},
		{of(-1, 3), []int64{-1, 1, 2}, api.OK},
		{of(-1, 2), []int64{-1, 2}, api.OK},
		{of(13, 8), []int64{1, 1, 1, 1, 2}, api.OK},
		{of(top, 1), []int64{top}, api.OK},
		{of(-top, 1), []int64{-top}, api.OK},
		{of(1, top), []int64{0, top}, api.OK},
		{of(-1, top), []int64{-1, 1, top - 1}, api.OK},
		{of(top, top-1), []int64{1, top - 1}, api.OK},
		{of(2, 4), nil, api.ErrForm},
		{of(1, -2), nil, api.ErrRange},
		{of(0, 0), nil, api.ErrRange},
	} {
		if l, e := frac.Terms(c.x); !slices.Equal(l, c.want) || e != c.e {
			t.Errorf("Terms(%v): got %v, %d, want %v, %d", c.x, l, e, c.want, c.e)
		}
	}
	for _, x := range invalid() {
		if l, e := frac.Terms(x); len(l) != 0 || e != faulty(x) {
			t.Errorf("Terms(%v): got %v, %d", x, l, e)
		}
	}
}

// terms is the definition of the terms, with exact arithmetic.
func terms(x *big.Rat) []int64 {
	first := floor(x)
	rest := new(big.Rat).Sub(x, new(big.Rat).SetInt(first))
	if rest.Sign() == 0 {
		return []int64{first.Int64()}
	}
	return append([]int64{first.Int64()}, terms(rest.Inv(rest))...)
}

// P3.7: comparison with the definition; From takes the terms back.
func TestTermsExact(t *testing.T) {
	list := append(small(), far()...)
	for d := int64(10); d <= 40; d++ {
		for n := int64(-100); n <= 100; n++ {
			x, _ := fitted(big.NewRat(n, d))
			list = append(list, x)
		}
	}
	for _, x := range list {
		l, e := frac.Terms(x)
		if want := terms(rat(x)); !slices.Equal(l, want) || e != api.OK {
			t.Errorf("Terms(%v): got %v, %d, want %v", x, l, e, want)
		}
		if y, e := frac.From(l); y != x || e != api.OK {
			t.Errorf("From(%v): got %v, %d, want %v", l, y, e, x)
		}
	}
}

// P3.7: ordinary terms, terms and results at the limits, and the errors in their order.
func TestFrom(t *testing.T) {
	for i, c := range []struct {
		l    []int64
		want api.Frac
		e    api.Errno
	}{
		{[]int64{-3, 1, 2}, of(-7, 3), api.OK},
		{[]int64{3, 7, 7}, of(157, 50), api.OK},
		{[]int64{5}, of(5, 1), api.OK},
		{[]int64{0}, of(0, 1), api.OK},
		{[]int64{1}, of(1, 1), api.OK},
		{[]int64{-1}, of(-1, 1), api.OK},
		{[]int64{0, 3}, of(1, 3), api.OK},
		{[]int64{-1, 2}, of(-1, 2), api.OK},
		{[]int64{top}, of(top, 1), api.OK},
		{[]int64{-top}, of(-top, 1), api.OK},
		{[]int64{0, top}, of(1, top), api.OK},
		{[]int64{-1, top}, of(1-top, top), api.OK},
		{[]int64{1, top - 1}, of(top, top-1), api.OK},
		{[]int64{-1, 1, top - 1}, of(-1, top), api.OK},
		{[]int64{-2, 1, top - 1}, api.Frac{}, api.ErrLarge},
		{[]int64{1 - top, 1, 1, 2}, api.Frac{}, api.ErrLarge},
		{[]int64{1, top}, api.Frac{}, api.ErrLarge},
		{[]int64{top, 2}, api.Frac{}, api.ErrLarge},
		{[]int64{-top, 2}, api.Frac{}, api.ErrLarge},
		{[]int64{top, top}, api.Frac{}, api.ErrLarge},
		{[]int64{-top, top}, api.Frac{}, api.ErrLarge},
		{[]int64{0, 1, top}, api.Frac{}, api.ErrLarge},
		{[]int64{0, top, 2}, api.Frac{}, api.ErrLarge},
		{[]int64{0, 1 << 32, 1 << 32}, api.Frac{}, api.ErrLarge},
		{[]int64{0, 2, 1 << 32, 1 << 32, 1 << 32, 1 << 32}, api.Frac{}, api.ErrLarge},
		// Here 10 * 922337203685477580 fits into 64 bits, but not together with 9.
		{[]int64{922337203685477580, 1, 9}, api.Frac{}, api.ErrLarge},
		{[]int64{0, 922337203685477580, 1, 9}, api.Frac{}, api.ErrLarge},
		{nil, api.Frac{}, api.ErrNone},
		{[]int64{}, api.Frac{}, api.ErrNone},
		{[]int64{top + 1}, api.Frac{}, api.ErrRange},
		{[]int64{-top - 1}, api.Frac{}, api.ErrRange},
		{[]int64{least}, api.Frac{}, api.ErrRange},
		{[]int64{most}, api.Frac{}, api.ErrRange},
		{[]int64{2, 0}, api.Frac{}, api.ErrRange},
		{[]int64{2, 0, 3}, api.Frac{}, api.ErrRange},
		{[]int64{2, -1}, api.Frac{}, api.ErrRange},
		{[]int64{2, 3, top + 1}, api.Frac{}, api.ErrRange},
		{[]int64{2, most, 3}, api.Frac{}, api.ErrRange},
		{[]int64{2, least, 3}, api.Frac{}, api.ErrRange},
		{[]int64{2, 1}, api.Frac{}, api.ErrForm},
		{[]int64{0, 1}, api.Frac{}, api.ErrForm},
		{[]int64{2, 5, 1}, api.Frac{}, api.ErrForm},
		// Several errors apply.
		{[]int64{2, 0, 1}, api.Frac{}, api.ErrRange},
		{[]int64{top + 1, 1}, api.Frac{}, api.ErrRange},
		{[]int64{top, top, top, 0}, api.Frac{}, api.ErrRange},
		{[]int64{top, 1}, api.Frac{}, api.ErrForm},
		{[]int64{top, top, top, 1}, api.Frac{}, api.ErrForm},
	} {
		if x, e := frac.From(c.l); x != c.want || e != c.e {
			t.Errorf("case %d, %v: got %v, %d, want %v, %d", i, c.l, x, e, c.want, c.e)
		}
	}
}

// value is the number with some terms, with exact arithmetic.
func value(l []int64) *big.Rat {
	x := new(big.Rat).SetInt64(l[0])
	if len(l) > 1 {
		x.Add(x, new(big.Rat).Inv(value(l[1:])))
	}
	return x
}

// P3.7: comparison with exact arithmetic.
func TestFromExact(t *testing.T) {
	figures := []int64{1, 2, 3, 1000, 1<<20 + 1, 1<<30 - 1, 1 << 30, 1<<40 + 1, top/2 - 1, top / 2, top - 1, top}
	firsts := append([]int64{0, -1, -2, -top, 1 - top, -1 << 30, -top / 2}, figures...)
	for _, a := range firsts {
		for _, b := range figures {
			for _, c := range figures {
				for _, d := range figures[1:] {
					l := []int64{a, b, c, d}
					want, err := fitted(value(l))
					if x, e := frac.From(l); x != want || e != err {
						t.Errorf("From(%v): got %v, %d, want %v, %d", l, x, e, want, err)
					}
				}
			}
		}
	}
}

// P3.7: quotients of Fibonacci numbers have more terms than others of their size; lists that are any longer are too large.
func TestFromLong(t *testing.T) {
	l := append(slices.Repeat([]int64{1}, 85), 2)
	if x, e := frac.From(l); x != of(1100087778366101931, 679891637638612258) || e != api.OK {
		t.Errorf("86 terms: got %v, %d", x, e)
	}
	l = append([]int64{0}, l...)
	x := of(679891637638612258, 1100087778366101931)
	if y, e := frac.From(l); y != x || e != api.OK {
		t.Errorf("87 terms: got %v, %d", y, e)
	}
	if m, e := frac.Terms(x); !slices.Equal(m, l) || e != api.OK {
		t.Errorf("Terms(%v): got %v, %d", x, m, e)
	}
	for _, n := range []int{86, 87, 90, 100, 1000, 1_000_000} {
		if x, e := frac.From(append(slices.Repeat([]int64{1}, n), 2)); x != (api.Frac{}) || e != api.ErrLarge {
			t.Errorf("%d terms: got %v, %d", n+1, x, e)
		}
	}
}

// P3.8: ordinary numbers, numbers that have the denominator, equally near ones, numbers at the limits, and the errors.
func TestBest(t *testing.T) {
	for _, c := range []struct {
		x    api.Frac
		most int64
		want api.Frac
		e    api.Errno
	}{
		{of(157, 50), 10, of(22, 7), api.OK},
		{of(157, 50), 7, of(22, 7), api.OK},
		{of(157, 50), 6, of(19, 6), api.OK},
		{of(157, 50), 49, of(135, 43), api.OK},
		{of(157, 50), 50, of(157, 50), api.OK},
		{of(157, 50), 4096, of(157, 50), api.OK},
		{of(-157, 50), 10, of(-22, 7), api.OK},
		{of(2, 5), 5, of(2, 5), api.OK},
		{of(2, 5), 4, of(1, 3), api.OK},
		{of(7, 1), 1, of(7, 1), api.OK},
		{of(0, 1), 1, of(0, 1), api.OK},
		{of(0, 1), 4096, of(0, 1), api.OK},
		{of(3, 8), 3, of(1, 3), api.OK},
		// Equally near ones with different denominators.
		{of(5, 12), 3, of(1, 2), api.OK},
		{of(7, 12), 3, of(1, 2), api.OK},
		{of(5, 12), 2, of(1, 2), api.OK},
		{of(3, 4), 3, of(2, 3), api.OK},
		{of(3, 4), 2, of(1, 1), api.OK},
		{of(1, 4), 2, of(0, 1), api.OK},
		{of(-1, 4), 2, of(0, 1), api.OK},
		{of(-3, 4), 2, of(-1, 1), api.OK},
		{of(1, 8192), 4096, of(0, 1), api.OK},
		{of(8191, 8192), 4096, of(1, 1), api.OK},
		{of(1, 8191), 4096, of(1, 4096), api.OK},
		{of(1, 8193), 4096, of(0, 1), api.OK},
		// Equally near whole numbers.
		{of(1, 2), 1, of(0, 1), api.OK},
		{of(-1, 2), 1, of(-1, 1), api.OK},
		{of(5, 2), 1, of(2, 1), api.OK},
		{of(-5, 2), 1, of(-3, 1), api.OK},
		// Limits.
		{of(top, 1), 1, of(top, 1), api.OK},
		{of(-top, 1), 4096, of(-top, 1), api.OK},
		{of(top-1, 2), 1, of(top/2-1, 1), api.OK},
		{of(1-top, 2), 1, of(-top/2, 1), api.OK},
		{of(top, top-1), 4096, of(1, 1), api.OK},
		{of(1, top), 4096, of(0, 1), api.OK},
		{of(-1, top), 4096, of(0, 1), api.OK},
		{of(1-top, top), 4096, of(-1, 1), api.OK},
		{of(1, 3), 1, of(0, 1), api.OK},
		{of(1, 3), 0, api.Frac{}, api.ErrRange},
		{of(1, 3), -1, api.Frac{}, api.ErrRange},
		{of(1, 3), least, api.Frac{}, api.ErrRange},
		{of(1, 3), 4097, api.Frac{}, api.ErrRange},
		{of(1, 3), most, api.Frac{}, api.ErrRange},
		{of(5, 1), 0, api.Frac{}, api.ErrRange},
		{of(5, 1), 4097, api.Frac{}, api.ErrRange},
		{of(2, 4), 5, api.Frac{}, api.ErrForm},
		{of(2, 4), 0, api.Frac{}, api.ErrForm},
		{of(0, 3), 4097, api.Frac{}, api.ErrForm},
		{of(1, -2), 3, api.Frac{}, api.ErrRange},
	} {
		if x, e := frac.Best(c.x, c.most); x != c.want || e != c.e {
			t.Errorf("Best(%v, %d): got %v, %d, want %v, %d", c.x, c.most, x, e, c.want, c.e)
		}
	}
	for _, x := range invalid() {
		for _, n := range []int64{0, 1, 9, 4096, 4097} {
			if y, e := frac.Best(x, n); y != (api.Frac{}) || e != faulty(x) {
				t.Errorf("Best(%v, %d): got %v, %d", x, n, y, e)
			}
		}
	}
	if frac.MaxBest != 4096 {
		t.Errorf("MaxBest is %d", frac.MaxBest)
	}
}

// best is the definition of Best: of the numbers with each denominator, the nearest one, and the first of these.
func best(x api.Frac, most int64) api.Frac {
	var found, least *big.Rat
	for d := int64(1); d <= most; d++ {
		scaled := new(big.Rat).Mul(rat(x), big.NewRat(d, 1))
		for _, n := range []*big.Int{floor(scaled), ceil(scaled)} {
			y := new(big.Rat).SetFrac(n, big.NewInt(d))
			distance := new(big.Rat).Sub(y, rat(x))
			distance.Abs(distance)
			if found == nil || distance.Cmp(least) < 0 {
				found, least = y, distance
			}
		}
	}
	return of(found.Num().Int64(), found.Denom().Int64())
}

// P3.8: comparison with the definition.
func TestBestExact(t *testing.T) {
	for d := int64(1); d <= 40; d++ {
		for n := -d; n <= 2*d; n++ {
			x, _ := fitted(big.NewRat(n, d))
			for m := int64(1); m <= 12; m++ {
				if y, e := frac.Best(x, m); y != best(x, m) || e != api.OK {
					t.Errorf("Best(%v, %d): got %v, %d, want %v", x, m, y, e, best(x, m))
				}
			}
		}
	}
	for _, x := range far() {
		for _, m := range []int64{1, 2, 3, 10, 97} {
			if y, e := frac.Best(x, m); y != best(x, m) || e != api.OK {
				t.Errorf("Best(%v, %d): got %v, %d, want %v", x, m, y, e, best(x, m))
			}
		}
	}
	for _, x := range []api.Frac{of(355, 113), of(1100087778366101931, 679891637638612258), of(top, 4097), of(-top, 4097), of(41072144766976, 823974609375), of(top-1, 999_999_999_989), of(4095, 8191)} {
		for _, m := range []int64{4095, 4096} {
			if y, e := frac.Best(x, m); y != best(x, m) || e != api.OK {
				t.Errorf("Best(%v, %d): got %v, %d, want %v", x, m, y, e, best(x, m))
			}
		}
	}
}
