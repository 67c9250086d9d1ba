package frac_test

import (
	"math"
	"math/big"

	"spyglass/api"
	"spyglass/frac"
)

const (
	top   = api.MaxNum
	least = math.MinInt64
	most  = math.MaxInt64
)

// of returns n/d as it is, whether it is valid or not.
func of(n, d int64) api.Frac { return api.Frac{Num: n, Den: d} }

// small returns all numbers with numerators from -9 to 9 and denominators from 1 to 9.
func small() []api.Frac {
	var list []api.Frac
	for d := int64(1); d <= 9; d++ {
		for n := int64(-9); n <= 9; n++ {
			if x := big.NewRat(n, d); x.Denom().Int64() == d {
				list = append(list, of(n, d))
			}
		}
	}
	return list
}

// far returns numbers near the limits and ones without structure, and a few near 0.
func far() []api.Frac {
	var list []api.Frac
	figures := []int64{1, 2, 3, 7, 4096, 1<<30 - 1, 1 << 30, 1<<30 + 3, 1_000_003, 999_999_999_989, 1 << 59, 1<<59 - 1, 1<<59 + 1, 3 << 58, top - 2, top - 1, top}
	for _, n := range figures {
		for _, d := range figures {
			if x := big.NewRat(n, d); x.Denom().Int64() == d {
				list = append(list, of(n, d), of(-n, d))
			}
		}
	}
	return append(list, of(0, 1))
}

// invalid returns numbers that are not valid, with each error of Check.
func invalid() []api.Frac {
	return []api.Frac{
		{}, of(1, 0), of(-1, 0), of(least, 0), of(1, -1), of(1, -2), of(0, -1), of(2, -2), of(least, least), of(1, least),
		of(top+1, 1), of(-top-1, 1), of(least, 1), of(most, 1), of(least, 2), of(1, top+1), of(1, most), of(0, top+1), of(top+1, 3), of(top+2, 2),
		of(0, 2), of(0, top), of(2, 2), of(2, 4), of(-2, 4), of(6, 9), of(-35, 49), of(top, top), of(-top, top), of(top, 2), of(-top, 1<<59),
	}
}

// faulty returns the error that a number of invalid has.
func faulty(x api.Frac) api.Errno {
	if x.Num < -top || x.Num > top || x.Den < 1 || x.Den > top {
		return api.ErrRange
	}
	return api.ErrForm
}

// rat returns the exact value of a number.
func rat(x api.Frac) *big.Rat { return big.NewRat(x.Num, x.Den) }

// fitted returns an exact value as a number, or ErrLarge if a limit is exceeded.
func fitted(r *big.Rat) (api.Frac, api.Errno) {
	limit := big.NewInt(top)
	if r.Num().CmpAbs(limit) > 0 || r.Denom().Cmp(limit) > 0 {
		return api.Frac{}, api.ErrLarge
	}
	return of(r.Num().Int64(), r.Denom().Int64()), api.OK
}

// floor returns r rounded down.
func floor(r *big.Rat) *big.Int { return new(big.Int).Div(r.Num(), r.Denom()) }

// ceil returns r rounded up.
func ceil(r *big.Rat) *big.Int {
	down := floor(new(big.Rat).Neg(r))
	return down.Neg(down)
}

// round returns the whole number that is nearest to r, of two the one farther from 0.
func round(r *big.Rat) *big.Int {
	half := floor(new(big.Rat).Add(new(big.Rat).Abs(r), big.NewRat(1, 2)))
	if r.Sign() < 0 {
		half.Neg(half)
	}
	return half
}

// operation is a function of two numbers and what it computes.
type operation struct {
	name string
	f    func(a, b api.Frac) (api.Frac, api.Errno)
	ref  func(z, a, b *big.Rat) *big.Rat
}

func operations() []operation {
	return []operation{
		{"Add", frac.Add, (*big.Rat).Add},
		{"Sub", frac.Sub, (*big.Rat).Sub},
		{"Mul", frac.Mul, (*big.Rat).Mul},
		{"Div", frac.Div, (*big.Rat).Quo},
	}
}
