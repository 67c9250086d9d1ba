package bound_test

import (
	"math"
	"math/big"
	"slices"

	"spyglass/api"
	"spyglass/bound"
)

type fix = api.Bound[api.Fix]

const (
	top   = api.Fix(api.MaxNum)
	least = math.MinInt64
	most  = math.MaxInt64
)

var none = fix{Unknown: true}

// invalid returns bounds that are not valid, with each error of Check.
func invalid() []fix {
	return []fix{
		{Lo: 1, Hi: 1, Unknown: true}, {Hi: 1, Unknown: true}, {Lo: -1, Unknown: true}, {Lo: least, Hi: most, Unknown: true},
		{Lo: -top - 1}, {Hi: top + 1}, {Lo: least, Hi: least}, {Lo: most, Hi: most}, {Lo: least, Hi: most},
		{Lo: 1}, {Lo: 3, Hi: 2}, {Lo: top, Hi: -top},
	}
}

// bounds returns all known bounds with the given ends, and the unknown one.
func bounds(ends ...api.Fix) []fix {
	list := []fix{none}
	for _, lo := range ends {
		for _, hi := range ends {
			if lo <= hi {
				list = append(list, fix{Lo: lo, Hi: hi})
			}
		}
	}
	return list
}

// small returns all known bounds with ends from -4 to 4, and the unknown one.
func small() []fix { return bounds(-4, -3, -2, -1, 0, 1, 2, 3, 4) }

// far returns bounds with ends near 0 and near the limits, and the unknown one.
func far() []fix {
	return bounds(-top, -top+1, -top/2, -1<<30, -7, -1, 0, 1, 3, 1<<30, top/2, top-1, top)
}

// numbers returns the whole numbers that the ends of a bound enclose.
func numbers(b fix) []api.Fix {
	var list []api.Fix
	for v := b.Lo; v <= b.Hi; v++ {
		list = append(list, v)
	}
	return list
}

// around returns the bound from the least to the greatest number of a list, unknown if that is out of range.
func around(list []api.Fix) fix {
	lo, hi := slices.Min(list), slices.Max(list)
	if lo < -top || hi > top {
		return none
	}
	return fix{Lo: lo, Hi: hi}
}

// fits returns the bound from lo to hi, unknown if an end is out of range.
func fits(lo, hi *big.Int) fix {
	limit := big.NewInt(api.MaxNum)
	if lo.CmpAbs(limit) > 0 || hi.CmpAbs(limit) > 0 {
		return none
	}
	return fix{Lo: api.Fix(lo.Int64()), Hi: api.Fix(hi.Int64())}
}

// floor returns r rounded down.
func floor(r *big.Rat) *big.Int { return new(big.Int).Div(r.Num(), r.Denom()) }

// ceil returns r rounded up.
func ceil(r *big.Rat) *big.Int {
	down := floor(new(big.Rat).Neg(r))
	return down.Neg(down)
}

// outward returns the bound from the least quotient rounded down to the greatest one rounded up.
func outward(list []*big.Rat) fix {
	order := func(p, q *big.Rat) int { return p.Cmp(q) }
	return fits(floor(slices.MinFunc(list, order)), ceil(slices.MaxFunc(list, order)))
}

// ratio returns a * b / c.
func ratio(a, b, c int64) *big.Rat {
	return new(big.Rat).SetFrac(new(big.Int).Mul(big.NewInt(a), big.NewInt(b)), big.NewInt(c))
}

// admits reports whether b admits all numbers of a list.
func admits(b fix, list ...*big.Int) bool {
	for _, v := range list {
		if !b.Unknown && (v.Cmp(big.NewInt(int64(b.Lo))) < 0 || v.Cmp(big.NewInt(int64(b.Hi))) > 0) {
			return false
		}
	}
	return true
}

// one is a function of one bound.
type one struct {
	name string
	f    func(a fix) fix
}

// two is a function of two bounds.
type two struct {
	name string
	f    func(a, b fix) fix
}

// units are the numbers that mean 1 in the tests of products.
func units() []int64 { return []int64{1, 2, 7, api.One, api.MaxNum, most} }

// ones returns the functions of one bound, with some values of their other arguments.
func ones() []one {
	list := []one{
		{"Norm", bound.Norm[api.Fix]},
		{"As", func(a fix) fix { return bound.As[api.Fix](bound.As[api.Light](a)) }},
		{"Neg", bound.Neg[api.Fix]},
		{"Abs", bound.Abs[api.Fix]},
		{"Sum", func(a fix) fix { return bound.Sum([]fix{a}) }},
	}
	for _, unit := range units() {
		list = append(list, one{"Root", func(a fix) fix { return bound.Root(a, unit) }})
		for _, n := range []int64{-api.MaxNum, -3, 0, 1, 5, api.MaxNum} {
			list = append(list, one{"Scale", func(a fix) fix { return bound.Scale(a, n, unit) }})
		}
	}
	return list
}

// twos returns the functions of two bounds that return a bound, with some values of their other arguments.
func twos() []two {
	list := []two{
		{"Add", bound.Add[api.Fix]},
		{"Sub", bound.Sub[api.Fix]},
		{"Min", bound.Min[api.Fix]},
		{"Max", bound.Max[api.Fix]},
		{"Hull", bound.Hull[api.Fix]},
		{"Sum", func(a, b fix) fix { return bound.Sum([]fix{a, b}) }},
		{"Total", func(a, b fix) fix { return bound.Total(slices.Values([]fix{a, b})) }},
	}
	for _, unit := range units() {
		list = append(list, two{"Mul", func(a, b fix) fix { return bound.Mul(a, b, unit) }})
		list = append(list, two{"Div", func(a, b fix) fix { return bound.Div(a, b, unit) }})
	}
	return list
}
