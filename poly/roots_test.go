package poly_test

import (
	"cmp"
	exact "math/big"
	"slices"
	"testing"

	"spyglass/api"
	"spyglass/big"
	"spyglass/poly"
)

// P5.6: ends that are roots, roots that occur several times, equal ends, and the errors in their order.
func TestCount(t *testing.T) {
	p, square := of(-9, -3, 8, 4), of(-2, 0, 1)
	for i, c := range []struct {
		p      poly.Poly
		lo, hi api.Frac
		want   int
		e      api.Errno
	}{
		{square, frac(0, 1), frac(3, 2), 1, api.OK},
		{square, frac(-2, 1), frac(2, 1), 2, api.OK},
		{square, frac(3, 2), frac(2, 1), 0, api.OK},
		{p, frac(-3, 2), frac(1, 1), 1, api.OK},
		{p, frac(-2, 1), frac(-3, 2), 1, api.OK},
		{p, frac(-3, 2), frac(-3, 2), 0, api.OK},
		{p, frac(-2, 1), frac(1, 1), 2, api.OK},
		{p, frac(-2, 1), frac(top-1, top), 1, api.OK},
		{p, frac(1, 1), frac(top, 1), 0, api.OK},
		{p, frac(-top, 1), frac(top, 1), 2, api.OK},
		{of(1, 0, 1), frac(-9, 1), frac(9, 1), 0, api.OK},
		{of(1, 0, 2, 0, 1), frac(-9, 1), frac(9, 1), 0, api.OK},
		{of(7), frac(0, 1), frac(1, 1), 0, api.OK},
		{of(-7), frac(0, 1), frac(0, 1), 0, api.OK},
		{of(0, 1), frac(0, 1), frac(0, 1), 0, api.OK},
		{of(0, 1), frac(-1, 1), frac(0, 1), 1, api.OK},
		{of(0, 1), frac(0, 1), frac(1, 1), 0, api.OK},
		{of(0, 0, 0, 0, 0, 0, 0, 0, 0, 0, 0, 0, -5), frac(-1, top), frac(1, top), 1, api.OK},
		{of(0, 0, 0, 1), frac(0, 1), frac(1, 1), 0, api.OK},
		// x (x^2 - 1)^2
		{of(0, 1, 0, -2, 0, 1), frac(-1, 1), frac(1, 1), 2, api.OK},
		{of(0, 1, 0, -2, 0, 1), frac(-2, 1), frac(1, 2), 2, api.OK},
		{of(-top, 1), frac(top-1, 1), frac(top, 1), 1, api.OK},
		{of(0, 1), frac(1, 1), frac(0, 1), 0, api.ErrOrder},
		{of(7), frac(1, 2), frac(1, 3), 0, api.ErrOrder},
		{nil, frac(0, 1), frac(1, 1), 0, api.ErrNone},
		{nil, frac(1, 1), frac(0, 1), 0, api.ErrNone},
		{nil, frac(1, 1), frac(0, 2), 0, api.ErrForm},
		{nil, frac(2, 2), frac(0, 0), 0, api.ErrForm},
		{nil, frac(0, 0), frac(2, 2), 0, api.ErrRange},
		{of(0, 1), frac(1, 0), frac(0, 1), 0, api.ErrRange},
		{of(0, 1), frac(1, 1), frac(0, -1), 0, api.ErrRange},
		{of(0, 1), frac(top+1, 1), frac(0, 1), 0, api.ErrRange},
		{of(0, 1), frac(3, 3), frac(0, 1), 0, api.ErrForm},
	} {
		if n, e := poly.Count(c.p, c.lo, c.hi); n != c.want || e != c.e {
			t.Errorf("case %d: got %d, %d", i, n, e)
		}
	}
}

// P5.7: roots in several units, some in one place, the order of the result, and the errors in their order.
func TestRoots(t *testing.T) {
	p := of(-9, -3, 8, 4)
	for i, c := range []struct {
		p    poly.Poly
		unit int64
		want []poly.Root
		e    api.Errno
	}{
		{p, 1, []poly.Root{{Lo: -2, Hi: -1, Times: 2}, {Lo: 1, Hi: 1, Times: 1}}, api.OK},
		{p, 2, []poly.Root{{Lo: -3, Hi: -3, Times: 2}, {Lo: 2, Hi: 2, Times: 1}}, api.OK},
		{of(-2, 0, 1), 1000, []poly.Root{{Lo: -1415, Hi: -1414, Times: 1}, {Lo: 1414, Hi: 1415, Times: 1}}, api.OK},
		{of(4, 0, -4, 0, 1), 1, []poly.Root{{Lo: -2, Hi: -1, Times: 2}, {Lo: 1, Hi: 2, Times: 2}}, api.OK},
		{of(0, 1), 7, []poly.Root{{Lo: 0, Hi: 0, Times: 1}}, api.OK},
		{of(0, 0, -3), top, []poly.Root{{Lo: 0, Hi: 0, Times: 2}}, api.OK},
		// (3x - 1)^2 (2x - 1)
		{of(-1, 8, -21, 18), 1, []poly.Root{{Lo: 0, Hi: 1, Times: 1}, {Lo: 0, Hi: 1, Times: 2}}, api.OK},
		// x^3 (x - 1)(2x - 1)(3x - 1)^2
		{of(0, 0, 0, 1, -9, 29, -39, 18), 1, []poly.Root{{Lo: 0, Hi: 0, Times: 3}, {Lo: 0, Hi: 1, Times: 1}, {Lo: 0, Hi: 1, Times: 2}, {Lo: 1, Hi: 1, Times: 1}}, api.OK},
		// x (2x - 1)(3x - 1)(x - 1)
		{of(0, -1, 6, -11, 6), 1, []poly.Root{{Lo: 0, Hi: 0, Times: 1}, {Lo: 0, Hi: 1, Times: 1}, {Lo: 0, Hi: 1, Times: 1}, {Lo: 1, Hi: 1, Times: 1}}, api.OK},
		// (x + 1)(2x + 1)(3x + 1)
		{of(1, 6, 11, 6), 1, []poly.Root{{Lo: -1, Hi: -1, Times: 1}, {Lo: -1, Hi: 0, Times: 1}, {Lo: -1, Hi: 0, Times: 1}}, api.OK},
		{of(1, 0, 1), 5, nil, api.OK},
		{of(3), 5, nil, api.OK},
		{nil, 5, nil, api.ErrNone},
		{nil, 0, nil, api.ErrArg},
		{of(0, 1), 0, nil, api.ErrArg},
		{of(0, 1), -1, nil, api.ErrArg},
		{of(0, 1), least, nil, api.ErrArg},
		{of(0, 1), top + 1, nil, api.ErrArg},
		{of(0, 1), most, nil, api.ErrArg},
		{of(-2, 1), 0, nil, api.ErrArg},
	} {
		if l, e := poly.Roots(c.p, c.unit); !slices.Equal(l, c.want) || e != c.e {
			t.Errorf("case %d: got %v, %d", i, l, e)
		}
	}
}

// P5.7: roots around the limits, on both sides, alone and among others, and roots that are not real.
func TestRootsLimit(t *testing.T) {
	one := func(lo, hi int64, times int) []poly.Root { return []poly.Root{{Lo: lo, Hi: hi, Times: times}} }
	long := two(300, 0)
	for i, c := range []struct {
		p    poly.Poly
		unit int64
		want []poly.Root
		e    api.Errno
	}{
		{of(-1, 1), top, one(top, top, 1), api.OK},
		{of(1, 1), top, one(-top, -top, 1), api.OK},
		{of(-top, 1), 1, one(top, top, 1), api.OK},
		{of(top, 1), 1, one(-top, -top, 1), api.OK},
		{of(-1, 0, 1), top, []poly.Root{{Lo: -top, Hi: -top, Times: 1}, {Lo: top, Hi: top, Times: 1}}, api.OK},
		{of(-2, 1), top, nil, api.ErrLarge},
		{of(2, 1), top, nil, api.ErrLarge},
		{of(-top-1, top), top, nil, api.ErrLarge},
		{of(top+1, top), top, nil, api.ErrLarge},
		{of(-top-1, 1), 1, nil, api.ErrLarge},
		{of(top+1, 1), 1, nil, api.ErrLarge},
		{of(-top+1, top), top, one(top-1, top-1, 1), api.OK},
		// half a unit around the limits
		{of(-2*top-1, 2), 1, nil, api.ErrLarge},
		{of(2*top+1, 2), 1, nil, api.ErrLarge},
		{of(-2*top+1, 2), 1, one(top-1, top, 1), api.OK},
		{of(2*top-1, 2), 1, one(-top, -top+1, 1), api.OK},
		{of(2*top-1, 4*top, 2*top+1), 1, []poly.Root{{Lo: -1, Hi: -1, Times: 1}, {Lo: -1, Hi: 0, Times: 1}}, api.OK},
		{poly.Poly{big.Neg(two(120, 1)), big.Of(0), big.Of(1)}, 1, nil, api.ErrLarge},
		{poly.Poly{big.Neg(two(120, -1)), big.Of(0), big.Of(1)}, 1, []poly.Root{{Lo: -top, Hi: -top + 1, Times: 1}, {Lo: top - 1, Hi: top, Times: 1}}, api.OK},
		{poly.Poly{two(120, 1), two(61, 0), big.Of(1)}, 1, nil, api.OK},
		{poly.Poly{two(120, 0), two(61, 0), big.Of(1)}, 1, one(-top, -top, 2), api.OK},
		{poly.Poly{two(120, -1), two(61, 0), big.Of(1)}, 1, nil, api.ErrLarge},
		// x (x - 2) and x^2 (x + 2)^2: one of the roots is too large
		{of(0, -2, 1), top, nil, api.ErrLarge},
		{of(0, 0, 4, 4, 1), top, nil, api.ErrLarge},
		{of(0, 0, 4, 4, 1), top / 2, []poly.Root{{Lo: -top, Hi: -top, Times: 2}, {Lo: 0, Hi: 0, Times: 2}}, api.OK},
		{poly.Poly{big.Neg(long), big.Of(1)}, 1, nil, api.ErrLarge},
		{poly.Poly{long, big.Of(1)}, 1, nil, api.ErrLarge},
		{poly.Poly{long, big.Of(0), big.Of(1)}, top, nil, api.OK},
		{poly.Poly{big.Of(-1), long}, top, one(0, 1, 1), api.OK},
		{poly.Poly{big.Of(1), long}, top, one(-1, 0, 1), api.OK},
		{poly.Poly{big.Of(-1), big.Of(0), long}, 1, []poly.Root{{Lo: -1, Hi: 0, Times: 1}, {Lo: 0, Hi: 1, Times: 1}}, api.OK},
		{of(-2, 1), most, nil, api.ErrArg},
	} {
		if l, e := poly.Roots(c.p, c.unit); !slices.Equal(l, c.want) || e != c.e {
			t.Errorf("case %d: got %v, %d", i, l, e)
		}
	}
}

// factor is a polynomial and its real roots: each is given by the sign of its difference to a number.
type factor struct {
	p     ratios
	roots []func(x *exact.Rat) int
}

// line is the factor whose root is n/d.
func line(n, d int64) factor {
	return factor{whole(-n, d), []func(*exact.Rat) int{func(x *exact.Rat) int { return exact.NewRat(n, d).Cmp(x) }}}
}

// pair is the factor whose roots are c - s and c + s with the square n/d of s.
func pair(c, n, d int64) factor {
	side := func(sign int) func(*exact.Rat) int {
		return func(x *exact.Rat) int {
			// The difference of sign * s and y is wanted.
			y := new(exact.Rat).Sub(x, exact.NewRat(c, 1))
			if y.Sign() != sign {
				return sign
			}
			return sign * exact.NewRat(n, d).Cmp(y.Mul(y, y))
		}
	}
	return factor{whole(d*c*c-n, -2*c*d, d), []func(*exact.Rat) int{side(-1), side(1)}}
}

// cube is the factor whose real root has the third power n/d.
func cube(n, d int64) factor {
	return factor{whole(-n, 0, 0, d), []func(*exact.Rat) int{func(x *exact.Rat) int {
		return exact.NewRat(n, d).Cmp(new(exact.Rat).Mul(x, new(exact.Rat).Mul(x, x)))
	}}}
}

// factors returns polynomials without common factors, some of them without real roots.
func factors() []factor {
	return []factor{
		line(0, 1), line(1, 1), line(-1, 1), line(1, 2), line(2, 3), line(-7, 3), line(1000, 7), line(1<<20+1, 1<<20), line(-(1<<40 + 1), 3), line(5, 1<<30),
		pair(0, 2, 1), pair(0, 1, 3), pair(3, 5, 1), pair(-2, 7, 2), pair(1, 1, 1<<40+1), pair(0, 1<<40+1, 1), pair(1000, 2, 1), pair(0, 2, 1<<41+1),
		cube(2, 1), cube(-5, 7), cube(1<<50+1, 3), cube(3, 1<<50+1),
		{whole(1, 0, 1), nil}, {whole(1, 1, 1), nil}, {whole(5, -4, 1), nil}, {whole(1, 0, 0, 0, 1), nil}, {whole(-3), nil},
	}
}

// mixture is a product of factors, and how often each of its different roots occurs.
type mixture struct {
	p     ratios
	roots []func(x *exact.Rat) int
	times []int
}

// mixtures returns valid products of factors of all sorts.
func mixtures(n int) []mixture {
	list := factors()
	var all []mixture
	for i := range n {
		m := mixture{p: whole(1)}
		for j := range 9 {
			// A walk through the list with steps that are coprime to its length of 27 takes no factor twice.
			f, times := list[(i*5+j*[]int{1, 2, 4, 5, 7, 8, 10}[i%7])%27], []int{1, 1, 2, 1, 3, 1, 4}[(i/3+i*j+j*j)%7]
			q := m.p.product(f.p.power(times))
			if !q.fits() {
				continue
			}
			m.p = q
			for _, r := range f.roots {
				m.roots, m.times = append(m.roots, r), append(m.times, times)
			}
		}
		all = append(all, m)
	}
	return all
}

// P5.6: comparison with the roots that a polynomial was made of.
func TestCountExact(t *testing.T) {
	ends := numbers()
	for _, c := range []api.Frac{frac(-7, 3), frac(2, 3), frac(1<<20+1, 1<<20), frac(1414213562, 1000000000/2), frac(1, 1<<20), frac(-(1<<40 + 1), 3), frac(1<<20, 1)} {
		ends = append(ends, exact.NewRat(c.Num, c.Den))
	}
	slices.SortFunc(ends, (*exact.Rat).Cmp)
	for i, m := range mixtures(300) {
		p := m.p.poly()
		for j := range 12 {
			lo, hi := ends[(i*7+j*13)%len(ends)], ends[(i*11+j*29)%len(ends)]
			if lo.Cmp(hi) > 0 {
				lo, hi = hi, lo
			}
			want := 0
			for _, r := range m.roots {
				if r(lo) > 0 && r(hi) <= 0 {
					want++
				}
			}
			if n, e := poly.Count(p, fracOf(lo), fracOf(hi)); n != want || e != api.OK {
				t.Errorf("roots of %v from %v to %v: got %d, %d, want %d", m.p, lo, hi, n, e, want)
			}
		}
	}
}

// down returns the greatest whole number that is at most unit * r, if that is from -MaxNum - 1 to MaxNum, for a root r.
func down(r func(*exact.Rat) int, unit int64) int64 {
	lo, hi := int64(-top-1), int64(top+1)
	for hi-lo > 1 {
		if middle := lo + (hi-lo)/2; r(exact.NewRat(middle, unit)) >= 0 {
			lo = middle
		} else {
			hi = middle
		}
	}
	return lo
}

// find returns the roots of a mixture as Roots should.
func (m mixture) find(unit int64) ([]poly.Root, api.Errno) {
	var list []poly.Root
	for i, r := range m.roots {
		if r(exact.NewRat(-top, unit)) < 0 || r(exact.NewRat(top, unit)) > 0 {
			return nil, api.ErrLarge
		}
		lo := down(r, unit)
		hi := lo + 1
		if r(exact.NewRat(lo, unit)) == 0 {
			hi = lo
		}
		list = append(list, poly.Root{Lo: lo, Hi: hi, Times: m.times[i]})
	}
	slices.SortFunc(list, func(a, b poly.Root) int {
		return cmp.Or(cmp.Compare(a.Lo, b.Lo), cmp.Compare(a.Hi, b.Hi), cmp.Compare(a.Times, b.Times))
	})
	return list, api.OK
}

// P5.7: comparison with the roots that a polynomial was made of, in units of all sizes.
func TestRootsExact(t *testing.T) {
	units := []int64{1, 2, 3, 6, 1000, 1 << 16, 1<<20 + 1, 1 << 30, 999_999_999_989, 1 << 50, 3 << 57, top - 1, top}
	large := 0
	for i, m := range mixtures(500) {
		for j := range 2 {
			unit := units[(i+j*5+i/13)%len(units)]
			want, err := m.find(unit)
			if l, e := poly.Roots(m.p.poly(), unit); !slices.Equal(l, want) || e != err {
				t.Errorf("%v in units of 1/%d: got %v, %d, want %v, %d", m.p, unit, l, e, want, err)
			}
			if err != api.OK {
				large++
			}
		}
	}
	if large < 100 || large > 900 {
		t.Errorf("%d of 1000 cases are too large", large)
	}
}

// count returns how many different real roots lie beyond lo up to hi, by Sturm's theorem with exact rational numbers; lo and hi are no roots.
func (p ratios) count(lo, hi *exact.Rat) int {
	chain := []ratios{p, p.slope()}
	for k := 1; len(chain[k]) > 0; k++ {
		rest := chain[k-1].rest(chain[k])
		chain = append(chain, ratios(nil).sum(rest, exact.NewRat(-1, 1), 0))
	}
	changes := func(x *exact.Rat) int {
		n, before := 0, 0
		for _, q := range chain {
			if s := q.at(x).Sign(); s != 0 {
				if s*before < 0 {
					n++
				}
				before = s
			}
		}
		return n
	}
	return changes(lo) - changes(hi)
}

// P5.6, P5.7: for polynomials without structure, every root has a change of sign around it, and none is missing.
func TestRootsRandom(t *testing.T) {
	found := 0
	for i := range uint64(120) {
		p := random(i, 1+int(i)%12, []int{3, 20, 150, 320}[i/12%4])
		unit := int64(1) << 40
		l, e := poly.Roots(p.poly(), unit)
		far := exact.NewRat(top/unit, 1)
		want := p.count(new(exact.Rat).Neg(far), far)
		n, err := poly.Count(p.poly(), frac(-top/unit, 1), frac(top/unit, 1))
		if len(l) != want || e != api.OK || n != want || err != api.OK {
			t.Errorf("%v: got %v, %d, and %d, %d, not %d roots", p, l, e, n, err, want)
		}
		for k, r := range l {
			lo, hi := p.at(exact.NewRat(r.Lo, unit)).Sign(), p.at(exact.NewRat(r.Hi, unit)).Sign()
			if r.Times != 1 || k > 0 && l[k-1].Hi > r.Lo || lo*hi != -1 && (r.Lo != r.Hi || lo != 0) || lo*hi == -1 && r.Hi != r.Lo+1 {
				t.Errorf("%v: root %v", p, r)
			}
		}
		found += len(l)
	}
	if found < 150 {
		t.Errorf("only %d roots", found)
	}
}

// P5.7: the most roots, far nearer to each other than a unit, and with gaps around a unit.
func TestRootsClose(t *testing.T) {
	for _, c := range []struct {
		size, unit int64
		first      int64
	}{{1 << 23, 1 << 20, 1 << 23}, {1 << 23, 1 << 23, 5}, {1 << 22, 1 << 23, 7}, {3 << 20, 1 << 22, 1 << 22}, {1_000_003, 1, 3}, {1_000_003, 1, 999_997}} {
		m := mixture{p: whole(1)}
		for k := range int64(12) {
			f := line(c.first+k, c.size)
			m.p, m.roots, m.times = m.p.product(f.p), append(m.roots, f.roots...), append(m.times, 1)
		}
		want, err := m.find(c.unit)
		if l, e := poly.Roots(m.p.poly(), c.unit); !m.p.fits() || !slices.Equal(l, want) || e != err || len(l) != 12 {
			t.Errorf("%v: got %v, %d, want %v, %d", c, l, e, want, err)
		}
	}
	// x^12 - 2(ax - 1)^2 has two roots very close to 1/a.
	a := near(155, 1)
	square := new(exact.Int).Mul(a, a)
	p := make(poly.Poly, 13)
	p[0], p[1], p[2], p[12] = big.Of(-2), from(new(exact.Int).Lsh(a, 2)), from(square.Neg(square.Lsh(square, 1))), big.Of(1)
	want := []poly.Root{{Lo: 0, Hi: 1, Times: 1}, {Lo: 0, Hi: 1, Times: 1}}
	if n, e := poly.Count(p, frac(0, 1), frac(1, top)); n != 2 || e != api.OK {
		t.Errorf("got %d close roots, %d", n, e)
	}
	l, e := poly.Roots(p, 1<<25)
	if e != api.OK || len(l) != 4 || !slices.Equal(l[1:3], want) || l[0].Hi != -l[3].Lo || l[0].Times != 1 || l[3].Times != 1 {
		t.Errorf("got %v, %d", l, e)
	}
}
