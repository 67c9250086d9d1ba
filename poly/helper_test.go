package poly_test

import (
	"math"
	exact "math/big"
	"slices"

	"spyglass/api"
	"spyglass/big"
	"spyglass/poly"
)

const (
	top   = api.MaxNum
	least = math.MinInt64
	most  = math.MaxInt64
)

// of returns a polynomial with small coefficients.
func of(l ...int64) poly.Poly {
	p := make(poly.Poly, len(l))
	for i, c := range l {
		p[i] = big.Of(c)
	}
	return p
}

// frac returns n/d as it is, whether it is valid or not.
func frac(n, d int64) api.Frac { return api.Frac{Num: n, Den: d} }

// from returns an exact number as an Int.
func from(n *exact.Int) big.Int {
	a, _ := big.Read(n.String())
	return a
}

// near returns 2^k + d.
func near(k int, d int64) *exact.Int {
	n := new(exact.Int).Lsh(exact.NewInt(1), uint(k))
	return n.Add(n, exact.NewInt(d))
}

// two returns 2^k + d as an Int.
func two(k int, d int64) big.Int { return from(near(k, d)) }

// chance returns numbers without structure, of that many bits and both signs; state chooses them.
func chance(state uint64, bits int) *exact.Int {
	n := new(exact.Int)
	for got := 0; got < bits; got += 32 {
		state = state*6364136223846793005 + 1442695040888963407
		n.Lsh(n, 32).Add(n, new(exact.Int).SetUint64(state>>32))
	}
	n.And(n, near(bits, -1)).SetBit(n, bits-1, 1)
	if state>>63 == 0 {
		n.Neg(n)
	}
	return n
}

// random returns a polynomial without structure; state chooses it.
func random(state uint64, degree, bits int) ratios {
	var p ratios
	for i := range degree + 1 {
		p = append(p, new(exact.Rat).SetInt(chance(state*100+uint64(i), bits)))
	}
	return p
}

// ratios is a polynomial whose coefficients are exact rational numbers, with which results are compared; the last one is not 0.
type ratios []*exact.Rat

// whole returns an exact polynomial with small coefficients.
func whole(l ...int64) ratios {
	p := make(ratios, len(l))
	for i, c := range l {
		p[i] = exact.NewRat(c, 1)
	}
	return p.trim()
}

// ref returns the exact polynomial of a Poly.
func ref(p poly.Poly) ratios {
	r := make(ratios, len(p))
	for i, c := range p {
		r[i], _ = new(exact.Rat).SetString(big.Text(c))
	}
	return r
}

// poly returns the Poly of an exact polynomial whose coefficients are whole.
func (p ratios) poly() poly.Poly {
	l := make(poly.Poly, len(p))
	for i, c := range p {
		l[i] = from(c.Num())
	}
	return l
}

// trim returns p without the coefficients at the end that are 0.
func (p ratios) trim() ratios {
	for len(p) > 0 && p[len(p)-1].Sign() == 0 {
		p = p[:len(p)-1]
	}
	return p
}

// sum returns p + c * x^k * q.
func (p ratios) sum(q ratios, c *exact.Rat, k int) ratios {
	total := make(ratios, max(len(p), len(q)+k))
	for i := range total {
		total[i] = new(exact.Rat)
		if i < len(p) {
			total[i].Set(p[i])
		}
		if i >= k && i-k < len(q) {
			total[i].Add(total[i], new(exact.Rat).Mul(c, q[i-k]))
		}
	}
	return total.trim()
}

// product returns p * q.
func (p ratios) product(q ratios) ratios {
	var total ratios
	for i, c := range p {
		total = total.sum(q, c, i)
	}
	return total
}

// slope returns the derivative of p.
func (p ratios) slope() ratios {
	var q ratios
	for i, c := range p {
		if i > 0 {
			q = append(q, new(exact.Rat).Mul(c, exact.NewRat(int64(i), 1)))
		}
	}
	return q
}

// at returns p(x).
func (p ratios) at(x *exact.Rat) *exact.Rat {
	sum, power := new(exact.Rat), exact.NewRat(1, 1)
	for _, c := range p {
		sum.Add(sum, new(exact.Rat).Mul(c, power))
		power.Mul(power, x)
	}
	return sum
}

// rest returns the remainder of p and q, which is not 0.
func (p ratios) rest(q ratios) ratios {
	for len(p) >= len(q) {
		c := new(exact.Rat).Quo(p[len(p)-1], q[len(q)-1])
		p = p.sum(q, c.Neg(c), len(p)-len(q))
	}
	return p
}

// gcd returns the primitive greatest common divisor of p and q.
func (p ratios) gcd(q ratios) ratios {
	for len(q) > 0 {
		p, q = q, p.rest(q)
	}
	return p.primitive()
}

// primitive returns the primitive multiple of p.
func (p ratios) primitive() ratios {
	if len(p) == 0 {
		return nil
	}
	divisor, multiple := new(exact.Int), exact.NewInt(1)
	for _, c := range p {
		common := new(exact.Int).GCD(nil, nil, multiple, c.Denom())
		multiple.Mul(multiple, new(exact.Int).Quo(c.Denom(), common))
	}
	for _, c := range p {
		n := new(exact.Int).Mul(c.Num(), multiple)
		divisor.GCD(nil, nil, divisor, n.Quo(n, c.Denom()).Abs(n))
	}
	if p[len(p)-1].Sign() < 0 {
		divisor.Neg(divisor)
	}
	return ratios(nil).sum(p, new(exact.Rat).SetFrac(multiple, divisor), 0)
}

// power returns p^n.
func (p ratios) power(n int) ratios {
	product := whole(1)
	for range n {
		product = product.product(p)
	}
	return product
}

// fits reports whether an exact polynomial with whole coefficients is valid.
func (p ratios) fits() bool {
	return len(p) <= poly.MaxDegree+1 && !slices.ContainsFunc(p, func(c *exact.Rat) bool { return c.Num().BitLen() > poly.MaxBits })
}

// limited returns an exact polynomial as a function with a limit should return it.
func (p ratios) limited() (ratios, api.Errno) {
	if !p.fits() {
		return nil, api.ErrLarge
	}
	return p, api.OK
}

// same reports whether a Poly has the coefficients of an exact polynomial.
func same(p poly.Poly, want ratios) bool {
	return slices.EqualFunc(p, want, func(c big.Int, r *exact.Rat) bool { return r.IsInt() && big.Text(c) == r.Num().String() })
}

// text returns the coefficients of a Poly.
func text(p poly.Poly) []string {
	l := []string{}
	for _, c := range p {
		l = append(l, big.Text(c))
	}
	return l
}

// small returns all polynomials with up to n coefficients from -2 to 2, without repetition.
func small(n int) []ratios {
	list := []ratios{nil}
	for size, ahead := 1, []ratios{nil}; size <= n; size++ {
		var next []ratios
		for _, p := range ahead {
			for c := int64(-2); c <= 2; c++ {
				q := append(slices.Clone(p), exact.NewRat(c, 1))
				next = append(next, q)
				if c != 0 {
					list = append(list, q)
				}
			}
		}
		ahead = next
	}
	return list
}

// invalid returns polynomials that are not valid, and the error of each.
func invalid() ([]poly.Poly, []api.Errno) {
	long := from(chance(1, 5000))
	return []poly.Poly{
		of(0), of(3, 0), of(0, 0), of(1, 2, 0), make(poly.Poly, 13),
		make(poly.Poly, 14), of(1, 2, 3, 4, 5, 6, 7, 8, 9, 10, 11, 12, 13, 14), make(poly.Poly, 1000),
		{two(320, 0)}, {big.Neg(two(320, 0))}, {two(320, 0), big.Of(1)}, {big.Of(1), two(320, 0), big.Of(1)}, {big.Of(1), big.Neg(long)}, {long, big.Of(0)},
	}, []api.Errno{
		api.ErrForm, api.ErrForm, api.ErrForm, api.ErrForm, api.ErrForm,
		api.ErrLarge, api.ErrLarge, api.ErrLarge,
		api.ErrLarge, api.ErrLarge, api.ErrLarge, api.ErrLarge, api.ErrLarge, api.ErrLarge,
	}
}
