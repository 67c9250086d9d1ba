package poly_test

import (
	exact "math/big"
	"slices"
	"testing"

	"spyglass/api"
	"spyglass/big"
	"spyglass/poly"
)

// P5.4: divisors with 0, with numbers, of multiples, and with signs; the result is primitive.
func TestGcd(t *testing.T) {
	for i, c := range []struct{ p, q, want poly.Poly }{
		{of(-9, -3, 8, 4), of(-10, 8, 2), of(-1, 1)},
		{nil, nil, nil},
		{nil, of(4, -6), of(-2, 3)},
		{of(4, -6), nil, of(-2, 3)},
		{of(0, 6), nil, of(0, 1)},
		{nil, of(-12), of(1)},
		{of(5), nil, of(1)},
		{of(4), of(6, 2), of(1)},
		{of(6, 2), of(-4), of(1)},
		{of(6), of(4), of(1)},
		{of(6, -2), of(6, -2), of(-3, 1)},
		{of(6, -2), of(-9, 3), of(-3, 1)},
		{of(1, 0, 1), of(-1, 0, 1), of(1)},
		{of(0, 0, 0, 4), of(0, 0, 6), of(0, 0, 1)},
		{of(0, 0, 6), of(0, 0, 0, -4), of(0, 0, 1)},
		{of(0, 2), of(0, 4), of(0, 1)},
		{of(1, 2), of(-1, 0, 4), of(1, 2)},
		{of(1, -2), of(-1, 0, 4), of(-1, 2)},
		{of(2, 3, 1), of(-2, -1, 1), of(1, 1)},
		// x^12 - 1 and x^8 - 1
		{of(-1, 0, 0, 0, 0, 0, 0, 0, 0, 0, 0, 0, 1), of(-1, 0, 0, 0, 0, 0, 0, 0, 1), of(-1, 0, 0, 0, 1)},
		{poly.Poly{two(320, -1)}, poly.Poly{two(320, -1), two(320, -1)}, of(1)},
	} {
		for range 2 {
			if g, e := poly.Gcd(c.p, c.q); !slices.Equal(text(g), text(c.want)) || e != api.OK {
				t.Errorf("case %d: got %v, %d", i, text(g), e)
			}
			c.p, c.q = c.q, c.p
		}
	}
}

// divisor compares Gcd with exact arithmetic.
func divisor(t *testing.T, p, q ratios) {
	t.Helper()
	want, err := p.gcd(q).limited()
	if g, e := poly.Gcd(p.poly(), q.poly()); !same(g, want) || e != err {
		t.Errorf("Gcd of %v and %v: got %v, %d", p, q, text(g), e)
	}
}

// P5.4: comparison with exact arithmetic for small polynomials.
func TestGcdSmall(t *testing.T) {
	list := small(3)
	for _, p := range list {
		for _, q := range list {
			divisor(t, p, q)
		}
	}
	list = small(5)
	for i := range 4000 {
		divisor(t, list[i*7%len(list)], list[(i*i*11+i)%len(list)])
	}
}

// P5.4: comparison with exact arithmetic for polynomials with and without common factors, of all degrees and with long coefficients.
func TestGcdLong(t *testing.T) {
	for i := range uint64(12) {
		for common := range uint64(8) {
			bits := 20 + int(i)*8
			c := random(i*50+common, int(common), bits)
			p := c.product(random(i*50+common+10, int(i)%(13-int(common)), bits))
			q := c.product(random(i*50+common+20, int(i*5+common)%(13-int(common)), bits))
			divisor(t, p, q)
			divisor(t, q, p)
		}
	}
	for _, degree := range []int{0, 1, 2, 11, 12} {
		divisor(t, random(1, 12, 320), random(2, degree, 320))
		divisor(t, random(3, degree, 320), random(4, 12, 320))
		divisor(t, random(5, degree, 320), random(5, degree, 320))
	}
}

// sparse returns polynomials most of whose coefficients are 0, so that degrees of remainders fall by more than 1.
func sparse(bits int) []ratios {
	var list []ratios
	for i := range uint64(60) {
		p := make(ratios, 13)
		for k := range p {
			p[k] = new(exact.Rat)
			if (int(i)*5+k*k*7)%5 == 0 || k == int(i)%13 {
				p[k].SetInt(chance(i*20+uint64(k), bits))
			}
		}
		list = append(list, p[:1+int(i)%13].trim())
	}
	return list
}

// P5.4: comparison with exact arithmetic where degrees of remainders fall by more than 1.
func TestGcdSparse(t *testing.T) {
	for _, bits := range []int{2, 320} {
		list := sparse(bits)
		for i, p := range list {
			for j, q := range list {
				if bits < 100 || (i+j)%13 == 0 {
					divisor(t, p, q)
				}
			}
		}
	}
}

// high returns c * (x + 1)(x^2 + x + 1) + 1, and multiples of it by factors without a common factor, with smaller coefficients.
func high(c *exact.Int) (g, p, q ratios) {
	g = whole(1, 2, 2, 1).product(ratios{new(exact.Rat).SetInt(c)}).sum(whole(1), exact.NewRat(1, 1), 0)
	return g, g.product(whole(-1, 1)), g.product(whole(1, -1, 1))
}

// P5.4: the divisor of two valid polynomials may have too many bits.
func TestGcdLimit(t *testing.T) {
	for _, c := range []struct {
		c *exact.Int
		e api.Errno
	}{{near(318, 0), api.OK}, {near(319, -1), api.OK}, {near(319, 0), api.ErrLarge}, {near(320, -2), api.ErrLarge}} {
		g, p, q := high(c.c)
		if !p.fits() || !q.fits() || g.fits() != (c.e == api.OK) {
			t.Fatalf("%v does not test the limit", c.c)
		}
		if got, e := poly.Gcd(p.poly(), q.poly()); e != c.e || e == api.OK && !same(got, g) || e != api.OK && len(got) != 0 {
			t.Errorf("%v: got %v, %d", c.c, text(got), e)
		}
		divisor(t, q, p)
	}
}

// P5.5: polynomials with single and multiple factors, with factors of other numbers of times missing, numbers, and 0.
func TestParts(t *testing.T) {
	one := whole(1)
	for i, c := range []struct {
		p    poly.Poly
		want []ratios
		e    api.Errno
	}{
		{of(-9, -3, 8, 4), []ratios{whole(-1, 1), whole(3, 2)}, api.OK},
		{of(0, 0, 0, -2), []ratios{one, one, whole(0, 1)}, api.OK},
		{of(5), nil, api.OK},
		{of(-1), nil, api.OK},
		{poly.Poly{two(320, -1)}, nil, api.OK},
		{nil, nil, api.ErrNone},
		{of(4, -6), []ratios{whole(-2, 3)}, api.OK},
		{of(1, 0, 1), []ratios{whole(1, 0, 1)}, api.OK},
		{of(3, 6, 3), []ratios{one, whole(1, 1)}, api.OK},
		{of(-1, 0, 0, 0, 1), []ratios{whole(-1, 0, 0, 0, 1)}, api.OK},
		{of(1, 0, 2, 0, 1), []ratios{one, whole(1, 0, 1)}, api.OK},
		// x (x^2 - 1)^2
		{of(0, 1, 0, -2, 0, 1), []ratios{whole(0, 1), whole(-1, 0, 1)}, api.OK},
		// x^4 (x + 2)
		{of(0, 0, 0, 0, 2, 1), []ratios{whole(2, 1), one, one, whole(0, 1)}, api.OK},
		{of(0, 0, 0, 0, 0, 0, 0, 0, 0, 0, 0, 0, 7), []ratios{one, one, one, one, one, one, one, one, one, one, one, whole(0, 1)}, api.OK},
	} {
		if l, e := poly.Parts(c.p); !slices.EqualFunc(l, c.want, same) || e != c.e {
			t.Errorf("case %d: got %d parts, %d", i, len(l), e)
		}
	}
}

// separate checks the parts of a polynomial against their definition.
func separate(t *testing.T, p ratios) {
	t.Helper()
	l, e := poly.Parts(p.poly())
	if e != api.OK || len(l) > 0 && len(l[len(l)-1]) < 2 {
		t.Errorf("Parts of %v: %d parts, %d", p, len(l), e)
		return
	}
	product := whole(1)
	for i, part := range l {
		q := ref(part)
		product = product.product(q.power(i + 1))
		if !same(part, q.primitive()) || len(q) > 1 && len(q.gcd(q.slope())) != 1 {
			t.Errorf("part %d of %v is %v", i, p, q)
		}
		for j := range i {
			if len(q.gcd(ref(l[j]))) != 1 {
				t.Errorf("parts %d and %d of %v have a common factor", i, j, p)
			}
		}
	}
	if !same(p.primitive().poly(), product) {
		t.Errorf("the parts of %v have the product %v", p, product)
	}
}

// P5.5: comparison with the definition, for small polynomials and products of all sorts.
func TestPartsExact(t *testing.T) {
	for _, p := range small(5)[1:] {
		separate(t, p)
	}
	factors := []ratios{whole(-6), whole(0, 1), whole(1, 1), whole(-3, 2), whole(1, 0, 1), whole(-2, 0, 1), whole(7, 1, 0, 3), random(1, 1, 20), random(2, 2, 20)}
	for i := range 400 {
		p := whole(1)
		for j, f := range factors {
			if q := p.product(f.power([]int{0, 1, 2, 3, 5, 0, 0}[(i/(j+1)+i*j)%7])); q.fits() {
				p = q
			}
		}
		separate(t, p)
	}
	for i := range uint64(13) {
		separate(t, random(i, int(i), 320))
		separate(t, random(i, int(i)/2, 150).power(2))
		separate(t, random(i, int(i)/4, 75).power(3).product(random(i+20, 2, 75)))
	}
	for _, p := range sparse(320) {
		separate(t, p)
	}
}

// P5.5: a part of a valid polynomial may have too many bits.
func TestPartsLimit(t *testing.T) {
	for _, c := range []struct {
		c *exact.Int
		e api.Errno
	}{{near(317, 0), api.OK}, {new(exact.Int).Mul(exact.NewInt(15), near(314, 0)), api.ErrLarge}} {
		// Without the last 1, this is c (x + 1)^4 (x - 1)^2.
		g := whole(1, 1).power(4).product(ratios{new(exact.Rat).SetInt(c.c)}).sum(whole(1), exact.NewRat(1, 1), 0)
		p := g.product(whole(-1, 1).power(2))
		if !p.fits() || g.fits() != (c.e == api.OK) {
			t.Fatalf("%v does not test the limit", c.c)
		}
		want := []ratios{g, whole(-1, 1)}
		if c.e != api.OK {
			want = nil
		}
		if l, e := poly.Parts(p.poly()); !slices.EqualFunc(l, want, same) || e != c.e {
			t.Errorf("%v: %d parts, %d", c.c, len(l), e)
		}
	}
}

// P5.6, P5.7: where Parts returns ErrLarge, the real roots are counted and found all the same.
func TestRootsOfLongParts(t *testing.T) {
	g := whole(1, 1).power(4).product(ratios{new(exact.Rat).SetInt(near(315, 0).Mul(near(315, 0), exact.NewInt(7)))}).sum(whole(-1), exact.NewRat(1, 1), 0)
	p := g.product(whole(-1, 1).power(2)).poly()
	if _, e := poly.Parts(p); e != api.ErrLarge {
		t.Fatalf("the parts have error %d", e)
	}
	want := []poly.Root{{Lo: -1001, Hi: -1000, Times: 1}, {Lo: -1000, Hi: -999, Times: 1}, {Lo: 1000, Hi: 1000, Times: 2}}
	if l, e := poly.Roots(p, 1000); !slices.Equal(l, want) || e != api.OK {
		t.Errorf("Roots: got %v, %d", l, e)
	}
	if n, e := poly.Count(p, frac(-2, 1), frac(-1, 1)); n != 1 || e != api.OK {
		t.Errorf("Count: got %d, %d", n, e)
	}
	if n, e := poly.Count(p, frac(-1, 1), frac(1, 1)); n != 2 || e != api.OK {
		t.Errorf("Count: got %d, %d", n, e)
	}
	if n := big.Bits(p[0]); n > poly.MaxBits {
		t.Errorf("%d bits", n)
	}
}
