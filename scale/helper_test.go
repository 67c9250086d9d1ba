package scale_test

import (
	"math"
	"math/big"

	"spyglass/api"
	"spyglass/scale"
)

const (
	top   = api.MaxNum
	turn  = api.Turn
	end   = api.MaxTick
	most  = math.MaxInt64
	least = math.MinInt64
)

type (
	arcs  = api.Bound[api.Arc]
	ticks = api.Bound[api.Tick]
	leaps = []api.Leap
)

// at returns a civil time, which may be invalid.
func at(year, month, day, hour, minute, second, milli int) scale.Civil {
	return scale.Civil{Year: year, Month: month, Day: day, Hour: hour, Minute: minute, Second: second, Milli: milli}
}

// rate returns a rotation, which may be invalid.
func rate(at api.Tick, angle api.Arc, n, d int64) api.Rate {
	return api.Rate{At: at, Angle: angle, Arcs: api.Frac{Num: n, Den: d}}
}

// chance returns a number without structure, from 0 to limit - 1; state chooses it.
func chance(state uint64, limit int64) int64 {
	for range 3 {
		state = state*6364136223846793005 + 1442695040888963407
		state ^= state >> 29
	}
	return int64(state >> 1 % uint64(limit))
}

// exactAngle returns U(t) of chapter 7.
func exactAngle(r api.Rate, t api.Tick) *big.Rat {
	elapsed := new(big.Rat).SetInt(new(big.Int).Sub(big.NewInt(int64(t)), big.NewInt(int64(r.At))))
	turned := elapsed.Mul(elapsed, big.NewRat(r.Arcs.Num, r.Arcs.Den))
	return turned.Add(turned, new(big.Rat).SetInt64(int64(r.Angle)))
}

// floor returns x rounded down.
func floor(x *big.Rat) *big.Int { return new(big.Int).Div(x.Num(), x.Denom()) }

// ceil returns x rounded up.
func ceil(x *big.Rat) *big.Int {
	down := floor(new(big.Rat).Neg(x))
	return down.Neg(down)
}

// validRates returns rotations: ordinary ones, fast and slow ones, and ones at the limits.
func validRates() []api.Rate {
	earth := scale.Earth()
	list := []api.Rate{
		rate(0, 5, 7, 2), rate(0, 0, 1, 1), rate(1000, 12345, 1, 3), rate(-7, turn-1, 2, 3),
		rate(0, 0, scale.MaxArcs, 1), rate(end, turn-1, scale.MaxArcs, 1), rate(-end, 0, scale.MaxArcs, 1), rate(-end, turn-1, scale.MaxArcs, 1),
		rate(0, turn/2, 1, top), rate(-end, 0, 1, top), rate(end, turn-1, 1, top), rate(5, 9, top, top-1), rate(5, 9, top-1, top), rate(0, 1, 3, 1<<59),
		rate(0, 0, top, 1<<44+1), rate(3, 77, top-1, 1<<44+1), rate(0, turn-5, 1<<16*1000-1, 1000),
		{Arcs: earth}, {At: 820454400000, Angle: 1203456789, Arcs: earth}, {At: -end, Angle: 1, Arcs: earth}, {At: end, Angle: turn - 1, Arcs: earth},
	}
	for i := range uint64(20) {
		n, d := 1+chance(i, 1<<40), 1<<24+chance(i+100, 1<<20)
		divisor := new(big.Int).GCD(nil, nil, big.NewInt(n), big.NewInt(d)).Int64()
		list = append(list, rate(api.Tick(chance(i+200, 2*end)-end), api.Arc(chance(i+300, turn)), n/divisor, d/divisor))
	}
	return list
}

// faultyRates returns rotations that are not valid, with their errors.
func faultyRates() map[api.Rate]api.Errno {
	return map[api.Rate]api.Errno{
		{}:                       api.ErrRange,
		rate(end+1, 0, 1, 1):     api.ErrRange,
		rate(-end-1, 0, 1, 1):    api.ErrRange,
		rate(most, 0, 1, 1):      api.ErrRange,
		rate(least, 0, 1, 1):     api.ErrRange,
		rate(0, -1, 1, 1):        api.ErrRange,
		rate(0, turn, 1, 1):      api.ErrRange,
		rate(0, most, 1, 1):      api.ErrRange,
		rate(0, least, 1, 1):     api.ErrRange,
		rate(0, 0, 1, 0):         api.ErrRange,
		rate(0, 0, 1, -1):        api.ErrRange,
		rate(0, 0, top+1, 1):     api.ErrRange,
		rate(0, 0, -top-1, 1):    api.ErrRange,
		rate(0, 0, 1, top+1):     api.ErrRange,
		rate(0, 0, least, least): api.ErrRange,
		rate(0, 0, 2, 4):         api.ErrForm,
		rate(0, 0, -2, 4):        api.ErrForm,
		rate(0, 0, 0, 2):         api.ErrForm,
		rate(0, 0, top, top):     api.ErrForm,
		rate(0, 0, 1<<18, 2):     api.ErrForm,
		rate(end+1, 0, 2, 4):     api.ErrRange,
		rate(0, turn, 2, 4):      api.ErrRange,
		rate(end+1, 0, 0, 1):     api.ErrRange,
		rate(0, -1, -1, 1):       api.ErrRange,
		rate(0, 0, 0, 1):         api.ErrArg,
		rate(0, 0, -1, 1):        api.ErrArg,
		rate(0, 0, -7, 2):        api.ErrArg,
		rate(0, 0, -top, 1):      api.ErrArg,
		rate(0, 0, 1<<16+1, 1):   api.ErrArg,
		rate(0, 0, 1<<17+1, 2):   api.ErrArg,
		rate(0, 0, top, 1):       api.ErrArg,
		rate(0, 0, top, 1<<44-1): api.ErrArg,
	}
}
