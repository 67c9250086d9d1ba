package frac_test

import (
	"math/big"
	"testing"

	"spyglass/api"
	"spyglass/frac"
)

// P3.1: valid numbers up to the limits, and both errors in their order.
func TestCheck(t *testing.T) {
	for _, c := range []struct {
		n, d int64
		e    api.Errno
	}{
		{1, 2, api.OK}, {-1, 2, api.OK}, {3, 1, api.OK}, {-35, 48, api.OK}, {0, 1, api.OK},
		{top, 1, api.OK}, {-top, 1, api.OK}, {1, top, api.OK}, {top - 1, top, api.OK}, {1 - top, top, api.OK}, {top, top - 1, api.OK},
		{top + 1, 1, api.ErrRange}, {-top - 1, 1, api.ErrRange}, {least, 1, api.ErrRange}, {most, 1, api.ErrRange},
		{1, 0, api.ErrRange}, {0, 0, api.ErrRange}, {1, -1, api.ErrRange}, {0, -1, api.ErrRange},
		{1, top + 1, api.ErrRange}, {1, least, api.ErrRange}, {1, most, api.ErrRange},
		{0, 2, api.ErrForm}, {0, top, api.ErrForm}, {2, 2, api.ErrForm}, {2, 4, api.ErrForm}, {-6, 9, api.ErrForm}, {top, top, api.ErrForm}, {-top, 2, api.ErrForm},
		// These are neither in their range nor in lowest terms.
		{2, -4, api.ErrRange}, {0, -5, api.ErrRange}, {top + 2, 2, api.ErrRange}, {2, top + 2, api.ErrRange}, {least, least, api.ErrRange}, {2, 0, api.ErrRange},
	} {
		if e := frac.Check(of(c.n, c.d)); e != c.e {
			t.Errorf("Check(%d/%d) is %d, not %d", c.n, c.d, e, c.e)
		}
	}
}

// P3.1: every list of the helpers is what it says.
func TestCheckLists(t *testing.T) {
	for _, x := range append(small(), far()...) {
		if e := frac.Check(x); e != api.OK {
			t.Errorf("Check(%v) is %d", x, e)
		}
	}
	for _, x := range invalid() {
		if e := frac.Check(x); e != faulty(x) {
			t.Errorf("Check(%v) is %d, not %d", x, e, faulty(x))
		}
	}
}

// P3.2: signs, lowest terms, the limits, the numbers whose opposite does not fit, and both errors.
func TestMake(t *testing.T) {
	for _, c := range []struct {
		n, d int64
		want api.Frac
		e    api.Errno
	}{
		{6, 4, of(3, 2), api.OK},
		{6, -4, of(-3, 2), api.OK},
		{-6, 4, of(-3, 2), api.OK},
		{-6, -4, of(3, 2), api.OK},
		{7, 7, of(1, 1), api.OK},
		{7, -7, of(-1, 1), api.OK},
		{-12, 1, of(-12, 1), api.OK},
		{0, 1, of(0, 1), api.OK},
		{0, -9, of(0, 1), api.OK},
		{0, most, of(0, 1), api.OK},
		{0, least, of(0, 1), api.OK},
		{least, least, of(1, 1), api.OK},
		{most, least + 1, of(-1, 1), api.OK},
		{least, 8, of(-top, 1), api.OK},
		{least, -8, of(top, 1), api.OK},
		{8, least, of(-1, top), api.OK},
		{1 << 62, least, of(-1, 2), api.OK},
		{1 << 62, 4, of(top, 1), api.OK},
		{top, 1, of(top, 1), api.OK},
		{-1, top, of(-1, top), api.OK},
		{1, -top, of(-1, top), api.OK},
		{1 << 61, 1, api.Frac{}, api.ErrLarge},
		{top + 1, 1, api.Frac{}, api.ErrLarge},
		{top + 1, -1, api.Frac{}, api.ErrLarge},
		{1, top + 1, api.Frac{}, api.ErrLarge},
		{1, -top - 1, api.Frac{}, api.ErrLarge},
		{1, least, api.Frac{}, api.ErrLarge},
		{least, 1, api.Frac{}, api.ErrLarge},
		{least, -1, api.Frac{}, api.ErrLarge},
		{least, 4, api.Frac{}, api.ErrLarge},
		{4, least, api.Frac{}, api.ErrLarge},
		{least, most, api.Frac{}, api.ErrLarge},
		{most, least, api.Frac{}, api.ErrLarge},
		{0, 0, api.Frac{}, api.ErrArg},
		{5, 0, api.Frac{}, api.ErrArg},
		{least, 0, api.Frac{}, api.ErrArg},
		{1 << 61, 0, api.Frac{}, api.ErrArg},
	} {
		if x, e := frac.Make(c.n, c.d); x != c.want || e != c.e {
			t.Errorf("Make(%d, %d): got %v, %d, want %v, %d", c.n, c.d, x, e, c.want, c.e)
		}
	}
}

// P3.2: comparison with exact arithmetic.
func TestMakeExact(t *testing.T) {
	list := []int64{least, least + 1, -top - 1, -top, -top + 1, top - 1, top, top + 1, 1 << 61, 1 << 62, -1 << 62, 3 << 60, -3 << 60, most - 1, most}
	for n := int64(-20); n <= 20; n++ {
		list = append(list, n, n*1_000_003, n<<57)
	}
	for _, n := range list {
		for _, d := range list {
			want, err := api.Frac{}, api.ErrArg
			if d != 0 {
				want, err = fitted(big.NewRat(n, d))
			}
			if x, e := frac.Make(n, d); x != want || e != err {
				t.Errorf("Make(%d, %d): got %v, %d, want %v, %d", n, d, x, e, want, err)
			}
		}
	}
}

// P3.3: ordinary results, ones that must be reduced, ones at the limits, and the errors.
func TestField(t *testing.T) {
	for i, c := range []struct {
		f    func(a, b api.Frac) (api.Frac, api.Errno)
		a, b api.Frac
		want api.Frac
		e    api.Errno
	}{
		{frac.Add, of(1, 6), of(1, 10), of(4, 15), api.OK},
		{frac.Add, of(1, 2), of(1, 2), of(1, 1), api.OK},
		{frac.Add, of(-1, 2), of(1, 2), of(0, 1), api.OK},
		{frac.Add, of(5, 12), of(1, 12), of(1, 2), api.OK},
		{frac.Add, of(top-1, 1), of(1, 1), of(top, 1), api.OK},
		{frac.Add, of(top, 1), of(1, 1), api.Frac{}, api.ErrLarge},
		{frac.Add, of(-top, 1), of(-1, 1), api.Frac{}, api.ErrLarge},
		{frac.Add, of(top, 1), of(-top, 1), of(0, 1), api.OK},
		{frac.Add, of(1, top), of(1, top), of(1, top/2), api.OK},
		{frac.Add, of(top-1, top), of(1, top), of(1, 1), api.OK},
		{frac.Add, of(1, top), of(1, top-1), api.Frac{}, api.ErrLarge},
		{frac.Add, of(1, top), of(1, 3), api.Frac{}, api.ErrLarge},
		{frac.Add, of(top, 1), of(1, 2), api.Frac{}, api.ErrLarge},
		{frac.Sub, of(1, 6), of(1, 10), of(1, 15), api.OK},
		{frac.Sub, of(1, 6), of(1, 6), of(0, 1), api.OK},
		{frac.Sub, of(1, 6), of(-1, 6), of(1, 3), api.OK},
		{frac.Sub, of(-top, 1), of(1, 1), api.Frac{}, api.ErrLarge},
		{frac.Sub, of(top, 1), of(top, 1), of(0, 1), api.OK},
		{frac.Sub, of(0, 1), of(-top, 1), of(top, 1), api.OK},
		{frac.Mul, of(1, 6), of(9, 2), of(3, 4), api.OK},
		{frac.Mul, of(-2, 3), of(-3, 2), of(1, 1), api.OK},
		{frac.Mul, of(0, 1), of(-7, top), of(0, 1), api.OK},
		{frac.Mul, of(top, top-1), of(top-1, top), of(1, 1), api.OK},
		{frac.Mul, of(-top, 3), of(3, top), of(-1, 1), api.OK},
		{frac.Mul, of(1<<59, 1), of(2, 1), of(top, 1), api.OK},
		{frac.Mul, of(1<<59, 1), of(3, 1), api.Frac{}, api.ErrLarge},
		{frac.Mul, of(1, 1<<59), of(1, 3), api.Frac{}, api.ErrLarge},
		{frac.Mul, of(1<<32, 1), of(1<<32, 1), api.Frac{}, api.ErrLarge},
		{frac.Mul, of(1, 1<<32), of(1, 1<<32), api.Frac{}, api.ErrLarge},
		{frac.Div, of(1, 6), of(-1, 2), of(-1, 3), api.OK},
		{frac.Div, of(-1, 6), of(-1, 2), of(1, 3), api.OK},
		{frac.Div, of(0, 1), of(-top, 7), of(0, 1), api.OK},
		{frac.Div, of(top, 7), of(top, 7), of(1, 1), api.OK},
		{frac.Div, of(1, 1), of(-top, 7), of(-7, top), api.OK},
		{frac.Div, of(1, 3), of(top, 1), api.Frac{}, api.ErrLarge},
		{frac.Div, of(top, 1), of(1, 2), api.Frac{}, api.ErrLarge},
		{frac.Div, of(1, 6), of(0, 1), api.Frac{}, api.ErrArg},
		{frac.Div, of(0, 1), of(0, 1), api.Frac{}, api.ErrArg},
		{frac.Div, of(2, 4), of(0, 1), api.Frac{}, api.ErrForm},
		{frac.Div, of(1, 2), of(0, 2), api.Frac{}, api.ErrForm},
		{frac.Div, of(1, 2), of(0, 0), api.Frac{}, api.ErrRange},
	} {
		if x, e := c.f(c.a, c.b); x != c.want || e != c.e {
			t.Errorf("case %d: got %v, %d, want %v, %d", i, x, e, c.want, c.e)
		}
	}
}

// P3.3: comparison with exact arithmetic, near 0 and near the limits.
func TestFieldExact(t *testing.T) {
	for _, list := range [][]api.Frac{small(), far()} {
		for _, a := range list {
			for _, b := range list {
				for _, o := range operations() {
					want, err := api.Frac{}, api.ErrArg
					if o.name != "Div" || b.Num != 0 {
						want, err = fitted(o.ref(new(big.Rat), rat(a), rat(b)))
					}
					if x, e := o.f(a, b); x != want || e != err {
						t.Errorf("%s(%v, %v): got %v, %d, want %v, %d", o.name, a, b, x, e, want, err)
					}
				}
			}
		}
	}
}

// P3.3: the error of a comes before that of b.
func TestFieldInvalid(t *testing.T) {
	valid := []api.Frac{of(0, 1), of(1, 2), of(-top, 1), of(top, 3), of(-1, top)}
	for _, o := range operations() {
		for _, bad := range invalid() {
			for _, x := range valid {
				if r, e := o.f(bad, x); r != (api.Frac{}) || e != faulty(bad) {
					t.Errorf("%s(%v, %v): got %v, %d", o.name, bad, x, r, e)
				}
				if r, e := o.f(x, bad); r != (api.Frac{}) || e != faulty(bad) {
					t.Errorf("%s(%v, %v): got %v, %d", o.name, x, bad, r, e)
				}
			}
			for _, worse := range invalid() {
				if r, e := o.f(bad, worse); r != (api.Frac{}) || e != faulty(bad) {
					t.Errorf("%s(%v, %v): got %v, %d", o.name, bad, worse, r, e)
				}
			}
		}
	}
}

// P3.4: the order of ordinary numbers, and of ones that differ by less than any float can tell.
func TestCmp(t *testing.T) {
	for _, c := range []struct {
		a, b api.Frac
		want int
	}{
		{of(1, 6), of(1, 10), 1}, {of(1, 10), of(1, 6), -1}, {of(1, 6), of(1, 6), 0},
		{of(-1, 6), of(-1, 10), -1}, {of(-1, 2), of(1, 2), -1}, {of(0, 1), of(-1, top), 1}, {of(0, 1), of(1, top), -1},
		{of(top, top-1), of(top-1, top-2), -1}, {of(top-2, top-1), of(top-1, top), -1}, {of(1-top, top), of(2-top, top-1), -1},
		{of(top, 1), of(-top, 1), 1}, {of(top, 1), of(top-1, 1), 1},
		{of(1, 2), of(2, 4), 0}, {of(2, 2), of(1, 2), 0}, {of(1, 2), of(0, 0), 0}, {of(5, -1), of(1, 2), 0}, {of(top+1, 1), of(1, 2), 0}, {of(1, 2), of(1, top+1), 0},
	} {
		if n := frac.Cmp(c.a, c.b); n != c.want {
			t.Errorf("Cmp(%v, %v) is %d, not %d", c.a, c.b, n, c.want)
		}
	}
}

// P3.4: rounding of ordinary numbers, ties and numbers at the limits.
func TestRounding(t *testing.T) {
	for _, c := range []struct {
		x                 api.Frac
		floor, ceil, near int64
	}{
		{of(0, 1), 0, 0, 0},
		{of(4, 1), 4, 4, 4},
		{of(-4, 1), -4, -4, -4},
		{of(7, 3), 2, 3, 2},
		{of(8, 3), 2, 3, 3},
		{of(-7, 3), -3, -2, -2},
		{of(-8, 3), -3, -2, -3},
		{of(1, 2), 0, 1, 1},
		{of(-1, 2), -1, 0, -1},
		{of(5, 2), 2, 3, 3},
		{of(-5, 2), -3, -2, -3},
		{of(1, top), 0, 1, 0},
		{of(-1, top), -1, 0, 0},
		{of(top-1, top), 0, 1, 1},
		{of(top/2-1, top), 0, 1, 0},
		{of(top/2, top-1), 0, 1, 1},
		{of(top, 1), top, top, top},
		{of(-top, 1), -top, -top, -top},
		{of(top-1, 2), top/2 - 1, top / 2, top / 2},
		{of(1-top, 2), -top / 2, 1 - top/2, -top / 2},
	} {
		if a, b, r := frac.Floor(c.x), frac.Ceil(c.x), frac.Round(c.x); a != c.floor || b != c.ceil || r != c.near {
			t.Errorf("%v: got %d, %d, %d, want %v", c.x, a, b, r, c)
		}
	}
}

// P3.4: comparison with exact arithmetic.
func TestOrderExact(t *testing.T) {
	for _, list := range [][]api.Frac{small(), far()} {
		for _, a := range list {
			if n := frac.Floor(a); n != floor(rat(a)).Int64() {
				t.Errorf("Floor(%v) is %d", a, n)
			}
			if n := frac.Ceil(a); n != ceil(rat(a)).Int64() {
				t.Errorf("Ceil(%v) is %d", a, n)
			}
			if n := frac.Round(a); n != round(rat(a)).Int64() {
				t.Errorf("Round(%v) is %d", a, n)
			}
			for _, b := range list {
				if n := frac.Cmp(a, b); n != rat(a).Cmp(rat(b)) {
					t.Errorf("Cmp(%v, %v) is %d", a, b, n)
				}
			}
		}
	}
}

// P3.4: 0 if an argument is not valid.
func TestOrderInvalid(t *testing.T) {
	for _, bad := range invalid() {
		if frac.Floor(bad) != 0 || frac.Ceil(bad) != 0 || frac.Round(bad) != 0 {
			t.Errorf("%v is rounded to %d, %d, %d", bad, frac.Floor(bad), frac.Ceil(bad), frac.Round(bad))
		}
		for _, x := range append(invalid(), of(0, 1), of(3, 2), of(-top, 1), of(top, 1)) {
			if frac.Cmp(bad, x) != 0 || frac.Cmp(x, bad) != 0 {
				t.Errorf("Cmp of %v and %v", bad, x)
			}
		}
	}
}
