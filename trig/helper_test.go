package trig_test

import (
	"math"
	exact "math/big"

	"spyglass/api"
)

const (
	top   = api.MaxNum
	turn  = api.Turn
	most  = math.MaxInt64
	least = math.MinInt64
)

type (
	arcs  = api.Bound[api.Arc]
	fixes = api.Bound[api.Fix]
)

var (
	none    = fixes{Unknown: true}
	unknown = arcs{Unknown: true}
)

// chance returns a number without structure, from 0 to limit - 1; state chooses it.
func chance(state uint64, limit int64) int64 {
	for range 3 {
		state = state*6364136223846793005 + 1442695040888963407
		state ^= state >> 29
	}
	return int64(state >> 1 % uint64(limit))
}

// rest returns the remainder of a and n, from 0 to n - 1.
func rest(a api.Arc, n int64) int64 {
	return new(exact.Int).Mod(exact.NewInt(int64(a)), exact.NewInt(n)).Int64()
}

// quotient returns a * b / c, rounded down.
func quotient(a, b, c *exact.Int) *exact.Int {
	product := new(exact.Int).Mul(a, b)
	return product.Div(product, c)
}

// rising returns Q(t) of P6.1, step by step as the document says.
func rising(t int64) int64 {
	e, quarter := new(exact.Int).Lsh(exact.NewInt(1), 60), exact.NewInt(turn/4)
	h, _ := new(exact.Int).SetString("1921FB54442D1846", 16)
	x := quotient(exact.NewInt(t), h, quarter)
	divisors := []int64{156, 110, 72, 42, 20, 6}
	if t > turn/8 {
		x = quotient(exact.NewInt(turn/4-t), h, quarter)
		divisors = []int64{182, 132, 90, 56, 30, 12, 2}
	}
	u, s := quotient(x, x, e), e
	for _, k := range divisors {
		part := quotient(u, s, e)
		s = new(exact.Int).Sub(e, part.Div(part, exact.NewInt(k)))
	}
	y := s
	if t <= turn/8 {
		y = quotient(x, s, e)
	}
	y = new(exact.Int).Add(y, exact.NewInt(1<<29))
	return y.Div(y, exact.NewInt(1<<30)).Int64()
}

// sine returns the sine of a by P6.1.
func sine(a api.Arc) api.Fix {
	r := rest(a, turn)
	switch {
	case r <= turn/4:
		return api.Fix(rising(r))
	case r <= turn/2:
		return api.Fix(rising(turn/2 - r))
	case r <= 3*turn/4:
		return api.Fix(-rising(r - turn/2))
	}
	return api.Fix(-rising(turn - r))
}

// cosine returns the cosine of a by P6.1.
func cosine(a api.Arc) api.Fix { return sine(api.Arc(rest(a, turn) + turn/4)) }

// realSine returns the real sine of an angle in arcs, times One; it errs by less than 2^-20.
func realSine(a float64) float64 {
	return math.Sin(math.Mod(a, turn)/turn*2*math.Pi) * api.One
}

// realCosine returns the real cosine of an angle in arcs, times One; it errs by less than 2^-20.
func realCosine(a float64) float64 {
	return math.Cos(math.Mod(a, turn)/turn*2*math.Pi) * api.One
}

// angles returns angles of every sort: about the eighths of turns, far ones, halves that are rounded, and some without structure.
func angles() []api.Arc {
	var list []api.Arc
	for eighth := api.Arc(-9); eighth <= 17; eighth++ {
		for d := api.Arc(-3); d <= 3; d++ {
			list = append(list, eighth*(turn/8)+d)
		}
	}
	for d := api.Arc(0); d < 4; d++ {
		list = append(list, least+d, most-d, top-d, -top+d, most-turn/4-d, most-turn/4+d, least+turn/2-d)
	}
	for i := range uint64(300) {
		list = append(list, api.Arc(chance(i, turn)), api.Arc(chance(i+1000, most)), api.Arc(-chance(i+2000, most)))
	}
	for _, t := range sharp() {
		list = append(list, t, t+turn/4, turn/2-t, t-turn/2, -t)
	}
	return list
}

// sharp returns angles up to a quarter of a turn where the smallest faults in computing the rule change the result: the number that is rounded is nearest to a half, of all angles or of those where the last terms of a series count most, or the two series differ.
func sharp() []api.Arc {
	return []api.Arc{
		182578574, 715968803, 206848527, 210558998, 216408071, 885593261, 370524980, 766916046, 796356482,
		530833216, 453397108, 599051976, 618682375,
		536839367, 536812019, 536777890, 536928699, 536935280, 536984504,
	}
}
