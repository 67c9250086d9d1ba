package poly_test

import (
	exact "math/big"
	"slices"
	"testing"

	"spyglass/api"
	"spyglass/big"
	"spyglass/poly"
)

// P5.1: coefficients with and without zeros at the end, at the limits of an int64, and degrees around the limit.
func TestOf(t *testing.T) {
	full := []int64{1, -2, 3, 0, 5, 0, 0, 8, 9, 10, 11, 12, -13}
	for _, c := range []struct {
		l    []int64
		want ratios
		e    api.Errno
	}{
		{nil, nil, api.OK},
		{[]int64{}, nil, api.OK},
		{[]int64{0}, nil, api.OK},
		{make([]int64, 20), nil, api.OK},
		{[]int64{7}, whole(7), api.OK},
		{[]int64{-7, 0}, whole(-7), api.OK},
		{[]int64{1, 0, 2, 0, 0}, whole(1, 0, 2), api.OK},
		{[]int64{0, 0, 0, 1}, whole(0, 0, 0, 1), api.OK},
		{[]int64{least, most, least}, whole(least, most, least), api.OK},
		{full, whole(full...), api.OK},
		{append(slices.Clone(full), 0, 0, 0), whole(full...), api.OK},
		{append(slices.Clone(full), 1), nil, api.ErrLarge},
		{append(slices.Clone(full), -1, 0), nil, api.ErrLarge},
		{append(make([]int64, 13), 1), nil, api.ErrLarge},
		{append(make([]int64, 500), 1), nil, api.ErrLarge},
	} {
		if p, e := poly.Of(c.l); !same(p, c.want) || e != c.e {
			t.Errorf("Of(%v): got %v, %d", c.l, text(p), e)
		}
	}
}

// P5.1: coefficients of up to 320 bits and degrees of up to 12 are valid; ErrLarge comes before ErrForm.
func TestCheck(t *testing.T) {
	limit := two(320, -1)
	for i, p := range []poly.Poly{
		nil, {}, of(1), of(-1), of(0, 1), of(0, 0, -3), of(1, 2, 3, 4, 5, 6, 7, 8, 9, 10, 11, 12, 13),
		{limit}, {big.Neg(limit)}, {limit, limit, big.Neg(limit)}, append(make(poly.Poly, 12), limit),
	} {
		if e := poly.Check(p); e != api.OK {
			t.Errorf("polynomial %d: error %d", i, e)
		}
	}
	list, errs := invalid()
	for i, p := range list {
		if e := poly.Check(p); e != errs[i] {
			t.Errorf("invalid polynomial %d: got %d, want %d", i, e, errs[i])
		}
	}
}

// P5.2 to P5.7: the error of Check comes first, that for the first polynomial before that for the second one.
func TestInvalid(t *testing.T) {
	list, errs := invalid()
	good, bad := of(-2, 0, 1), frac(1, 0)
	for i, p := range list {
		e := errs[i]
		other := api.ErrForm + api.ErrLarge - e
		second := map[api.Errno]poly.Poly{api.ErrForm: of(0), api.ErrLarge: {two(320, 0)}}[other]
		for name, f := range map[string]func(p, q poly.Poly) (poly.Poly, api.Errno){"Add": poly.Add, "Mul": poly.Mul, "Gcd": poly.Gcd} {
			for _, c := range []struct {
				p, q poly.Poly
				e    api.Errno
			}{{p, good, e}, {good, p, e}, {p, nil, e}, {nil, p, e}, {p, second, e}, {second, p, other}} {
				if r, got := f(c.p, c.q); len(r) != 0 || got != c.e {
					t.Errorf("%s of invalid polynomial %d: %v, error %d", name, i, text(r), got)
				}
			}
		}
		if r, got := poly.Derive(p); len(r) != 0 || got != e {
			t.Errorf("Derive of invalid polynomial %d: %v, error %d", i, text(r), got)
		}
		if r, got := poly.Parts(p); len(r) != 0 || got != e {
			t.Errorf("Parts of invalid polynomial %d: %d parts, error %d", i, len(r), got)
		}
		if x, got := poly.Eval(p, two(320, 0)); x != (big.Int{}) || got != e {
			t.Errorf("Eval of invalid polynomial %d: %s, error %d", i, big.Text(x), got)
		}
		if n, got := poly.Sign(p, bad); n != 0 || got != e {
			t.Errorf("Sign of invalid polynomial %d: %d, error %d", i, n, got)
		}
		if n, got := poly.Count(p, bad, bad); n != 0 || got != e {
			t.Errorf("Count of invalid polynomial %d: %d, error %d", i, n, got)
		}
		if l, got := poly.Roots(p, 0); len(l) != 0 || got != e {
			t.Errorf("Roots of invalid polynomial %d: %v, error %d", i, l, got)
		}
	}
}

// P5.2: sums of polynomials of different degrees, ones in which the highest powers cancel, and the limit of the bits.
func TestAdd(t *testing.T) {
	limit, half := two(320, -1), two(319, 0)
	for i, c := range []struct {
		p, q, want poly.Poly
		e          api.Errno
	}{
		{of(1, 2), of(3, -2), of(4), api.OK},
		{of(1, 2, 3), of(4, 5), of(5, 7, 3), api.OK},
		{of(4, 5), of(1, 2, 3), of(5, 7, 3), api.OK},
		{of(1, 2, 3), of(-1, -2, -3), nil, api.OK},
		{of(1, 2, 3), of(-1, 0, -3), of(0, 2), api.OK},
		{nil, nil, nil, api.OK},
		{of(1, 2), nil, of(1, 2), api.OK},
		{nil, of(1, 2), of(1, 2), api.OK},
		{of(most), of(1), poly.Poly{two(63, 0)}, api.OK},
		{poly.Poly{limit, limit}, of(0, -1), poly.Poly{limit, two(320, -2)}, api.OK},
		{poly.Poly{limit}, of(0, 1), poly.Poly{limit, big.Of(1)}, api.OK},
		{poly.Poly{limit}, of(1), nil, api.ErrLarge},
		{poly.Poly{limit, big.Of(1)}, of(1, -1), nil, api.ErrLarge},
		{poly.Poly{big.Neg(limit)}, of(-1), nil, api.ErrLarge},
		{poly.Poly{half, big.Of(1)}, poly.Poly{half, big.Of(1)}, nil, api.ErrLarge},
		{poly.Poly{big.Of(1), half}, poly.Poly{big.Of(1), half}, nil, api.ErrLarge},
		{poly.Poly{half}, poly.Poly{big.Neg(half)}, nil, api.OK},
	} {
		if p, e := poly.Add(c.p, c.q); !slices.Equal(text(p), text(c.want)) || e != c.e {
			t.Errorf("case %d: got %v, %d", i, text(p), e)
		}
	}
}

// P5.2: products with 0 and with numbers, up to the limits of the degree and of the bits; only those of the result count.
func TestMul(t *testing.T) {
	x6, x7 := of(0, 0, 0, 0, 0, 0, 1), of(0, 0, 0, 0, 0, 0, 0, 1)
	cube := ratios.product(whole(1, 3, 3, 1), ratios{new(exact.Rat).SetInt(near(318, 0))})
	for i, c := range []struct {
		p, q poly.Poly
		want ratios
		e    api.Errno
	}{
		{of(-1, 1), of(9, 12, 4), whole(-9, -3, 8, 4), api.OK},
		{nil, of(9, 12, 4), nil, api.OK},
		{of(9, 12, 4), nil, nil, api.OK},
		{nil, nil, nil, api.OK},
		{of(-3), of(5), whole(-15), api.OK},
		{of(-3), of(1, 0, 2), whole(-3, 0, -6), api.OK},
		{of(1, 1), of(1, -1), whole(1, 0, -1), api.OK},
		{x6, x6, whole(0, 0, 0, 0, 0, 0, 0, 0, 0, 0, 0, 0, 1), api.OK},
		{x6, x7, nil, api.ErrLarge},
		{x7, x6, nil, api.ErrLarge},
		{x7, nil, nil, api.OK},
		{poly.Poly{two(160, 0)}, poly.Poly{two(159, 0)}, ratios{new(exact.Rat).SetInt(near(319, 0))}, api.OK},
		{poly.Poly{two(160, 0)}, poly.Poly{two(160, 0)}, nil, api.ErrLarge},
		{poly.Poly{two(160, -1)}, poly.Poly{two(160, 1)}, ratios{new(exact.Rat).SetInt(near(320, -1))}, api.OK},
		{poly.Poly{two(160, 0), big.Of(1)}, poly.Poly{two(160, 0), big.Of(1)}, nil, api.ErrLarge},
		{poly.Poly{two(319, 0), big.Of(1)}, of(1, 2), nil, api.ErrLarge},
		{cube.poly(), of(-1, 3, -3, 1), cube.product(whole(-1, 3, -3, 1)), api.OK},
	} {
		if p, e := poly.Mul(c.p, c.q); !same(p, c.want) || e != c.e {
			t.Errorf("case %d: got %v, %d", i, text(p), e)
		}
	}
}

// P5.2: derivatives of all degrees, and the limit of the bits.
func TestDerive(t *testing.T) {
	for i, c := range []struct {
		p, want poly.Poly
		e       api.Errno
	}{
		{nil, nil, api.OK},
		{of(5), nil, api.OK},
		{of(5, -3), of(-3), api.OK},
		{of(-9, -3, 8, 4), of(-3, 16, 12), api.OK},
		{of(1, 0, 0, 7), of(0, 0, 21), api.OK},
		{of(1, 1, 1, 1, 1, 1, 1, 1, 1, 1, 1, 1, 1), of(1, 2, 3, 4, 5, 6, 7, 8, 9, 10, 11, 12), api.OK},
		{of(0, 0, most), poly.Poly{big.Of(0), two(64, -2)}, api.OK},
		{poly.Poly{two(320, -1), two(320, -1)}, poly.Poly{two(320, -1)}, api.OK},
		{poly.Poly{big.Of(0), big.Of(0), two(319, -1)}, poly.Poly{big.Of(0), two(320, -2)}, api.OK},
		{poly.Poly{big.Of(0), big.Of(0), two(319, 0)}, nil, api.ErrLarge},
		{poly.Poly{big.Of(0), big.Of(0), big.Neg(two(319, 0)), big.Of(1)}, nil, api.ErrLarge},
	} {
		if p, e := poly.Derive(c.p); !slices.Equal(text(p), text(c.want)) || e != c.e {
			t.Errorf("case %d: got %v, %d", i, text(p), e)
		}
	}
}

// P5.2: comparison with exact arithmetic, for small polynomials and for ones without structure around the limits.
func TestSumsExact(t *testing.T) {
	list := small(3)
	for i := range uint64(40) {
		list = append(list, random(i, int(i)%13, 1+int(i*67%320)), random(i, int(i)%7, 150+int(i)%20))
	}
	for _, p := range list {
		want, err := p.slope().limited()
		if r, e := poly.Derive(p.poly()); !same(r, want) || e != err {
			t.Errorf("Derive(%v): got %v, %d", p, text(r), e)
		}
		for _, q := range list {
			want, err := p.sum(q, exact.NewRat(1, 1), 0).limited()
			if r, e := poly.Add(p.poly(), q.poly()); !same(r, want) || e != err {
				t.Errorf("%v + %v: got %v, %d", p, q, text(r), e)
			}
			want, err = p.product(q).limited()
			if r, e := poly.Mul(p.poly(), q.poly()); !same(r, want) || e != err {
				t.Errorf("%v * %v: got %v, %d", p, q, text(r), e)
			}
		}
	}
}

// P5.3: values, the value of 0 and of numbers, and the limit of the bits of x, which does not apply to the result.
func TestEval(t *testing.T) {
	p := of(-9, -3, 8, 4)
	for _, c := range []struct {
		p    poly.Poly
		x    int64
		want string
	}{
		{p, -2, "-3"}, {p, 0, "-9"}, {p, 1, "0"}, {p, -1, "-2"}, {p, 10, "4761"}, {nil, 3, "0"}, {of(7), 3, "7"}, {of(0, 1), -3, "-3"},
		{of(0, 0, 1), most, "85070591730234615847396907784232501249"},
	} {
		if v, e := poly.Eval(c.p, big.Of(c.x)); big.Text(v) != c.want || e != api.OK {
			t.Errorf("%v at %d: got %s, %d", text(c.p), c.x, big.Text(v), e)
		}
	}
	for _, x := range []*exact.Int{near(320, -1), new(exact.Int).Neg(near(320, -1)), chance(3, 320), chance(8, 100)} {
		for i := range uint64(14) {
			q := random(i, int(i)%13, 320)
			want := q.at(new(exact.Rat).SetInt(x))
			if v, e := poly.Eval(q.poly(), from(x)); big.Text(v) != want.Num().String() || e != api.OK {
				t.Errorf("%v at %v: got %s, %d", q, x, big.Text(v), e)
			}
		}
	}
	for _, q := range []poly.Poly{nil, of(1), p} {
		for _, x := range []big.Int{two(320, 0), big.Neg(two(320, 0)), two(321, 5), two(100_000, 0)} {
			if v, e := poly.Eval(q, x); v != (big.Int{}) || e != api.ErrLarge {
				t.Errorf("%v at a long number: got %s, %d", text(q), big.Text(v), e)
			}
		}
	}
}

// P5.3: signs at roots, near them, and for numbers that are not valid.
func TestSign(t *testing.T) {
	p := of(-9, -3, 8, 4)
	for _, c := range []struct {
		p    poly.Poly
		x    api.Frac
		want int
		e    api.Errno
	}{
		{p, frac(-3, 2), 0, api.OK},
		{p, frac(-7, 5), -1, api.OK},
		{p, frac(-8, 5), -1, api.OK},
		{p, frac(1, 1), 0, api.OK},
		{p, frac(3, 2), 1, api.OK},
		{p, frac(0, 1), -1, api.OK},
		{nil, frac(5, 3), 0, api.OK},
		{of(4), frac(5, 3), 1, api.OK},
		{of(-4), frac(5, 3), -1, api.OK},
		{of(0, -1), frac(-5, 3), 1, api.OK},
		{of(1-top, top), frac(top-1, top), 0, api.OK},
		{of(1-top, top), frac(top-2, top-1), -1, api.OK},
		{of(2-top, top-1), frac(top-1, top), 1, api.OK},
		{of(-top, 1), frac(top, 1), 0, api.OK},
		{of(-1, top), frac(1, top), 0, api.OK},
		{p, frac(2, 2), 0, api.ErrForm},
		{p, frac(0, 2), 0, api.ErrForm},
		{nil, frac(2, 2), 0, api.ErrForm},
		{p, frac(1, 0), 0, api.ErrRange},
		{p, frac(1, -1), 0, api.ErrRange},
		{p, frac(top+1, 1), 0, api.ErrRange},
		{p, frac(1, top+1), 0, api.ErrRange},
		{nil, frac(1, 0), 0, api.ErrRange},
	} {
		if n, e := poly.Sign(c.p, c.x); n != c.want || e != c.e {
			t.Errorf("%v at %v: got %d, %d", text(c.p), c.x, n, e)
		}
	}
}

// numbers returns rational numbers of several sizes.
func numbers() []*exact.Rat {
	list := []*exact.Rat{new(exact.Rat)}
	for _, n := range []int64{1, 2, 3, 5, 1000, 1<<30 + 1, top - 1, top} {
		for _, d := range []int64{1, 2, 3, 7, 999, 1<<30 - 1, top - 1, top} {
			list = append(list, exact.NewRat(n, d), exact.NewRat(-n, d))
		}
	}
	return list
}

// frac of an exact number that fits.
func fracOf(x *exact.Rat) api.Frac { return frac(x.Num().Int64(), x.Denom().Int64()) }

// P5.3: comparison of the signs with exact arithmetic.
func TestSignExact(t *testing.T) {
	list := small(4)
	for i := range uint64(26) {
		list = append(list, random(i, int(i)%13, 1+int(i*67%320)))
	}
	for i, p := range list {
		for j, x := range numbers() {
			if len(p) < 5 && (i+j)%4 != 0 {
				continue
			}
			if n, e := poly.Sign(p.poly(), fracOf(x)); n != p.at(x).Sign() || e != api.OK {
				t.Errorf("%v at %v: got %d, %d", p, x, n, e)
			}
		}
	}
}
