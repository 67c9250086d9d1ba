package clock_test

import (
	"math"
	"math/big"

	"spyglass/api"
	"spyglass/clock"
)

const (
	top   = api.MaxNum
	end   = api.MaxTick
	most  = math.MaxInt64
	least = math.MinInt64
)

type ticks = api.Bound[api.Tick]

var none = ticks{Unknown: true}

// set returns a clock, which may be invalid.
func set(shown, lo, hi api.Tick, drift int64) clock.Clock {
	return clock.Clock{Set: shown, At: ticks{Lo: lo, Hi: hi}, Drift: drift}
}

// run returns a simulated clock, which may be invalid; its legs are pairs of a time and of millionths.
func run(shown, at api.Tick, legs ...[2]int64) clock.Run {
	r := clock.Run{Set: shown, At: at}
	for _, leg := range legs {
		r.Legs = append(r.Legs, clock.Leg{For: api.Tick(leg[0]), Ppm: leg[1]})
	}
	return r
}

// chance returns a number without structure, from 0 to limit - 1; state chooses it.
func chance(state uint64, limit int64) int64 {
	for range 3 {
		state = state*6364136223846793005 + 1442695040888963407
		state ^= state >> 29
	}
	return int64(state >> 1 % uint64(limit))
}

// floor returns n * a / b, rounded down.
func floor(n, a, b int64) api.Tick {
	x := new(big.Int).Mul(big.NewInt(n), big.NewInt(a))
	return api.Tick(x.Div(x, big.NewInt(b)).Int64())
}

// ceil returns n * a / b, rounded up.
func ceil(n, a, b int64) api.Tick { return -floor(-n, a, b) }

// validClocks returns clocks of which something is known: ordinary ones, ones without drift, and ones at the limits.
func validClocks() []clock.Clock {
	list := []clock.Clock{
		{}, set(1000, 5000, 5010, 100_000), set(-7, -9, -3, 1), set(3, 0, 1000, 0), set(0, 0, 0, 100_000), set(0, 0, 0, 99_999),
		set(end, end, end, 100_000), set(-end, -end, -end, 100_000), set(-end, -end, end, 100_000), set(end, -end, -end, 5), set(-end, end, end, 5), set(end, -end, end, 0), set(-end, -end, -end, 0),
	}
	for i := range uint64(20) {
		at := api.Tick(chance(i, 1<<41)) - 1<<40
		list = append(list, set(api.Tick(chance(i+100, 1<<41))-1<<40, at, at+api.Tick(chance(i+200, 1<<(i+1))), chance(i+300, clock.MaxDrift+1)))
	}
	return list
}

// faultyClocks returns clocks that are not valid, with their errors.
func faultyClocks() map[clock.Clock]api.Errno {
	return map[clock.Clock]api.Errno{
		{At: ticks{Lo: 1, Unknown: true}}:                        api.ErrForm,
		{At: ticks{Hi: -1, Unknown: true}, Set: most, Drift: -1}: api.ErrForm,
		{At: ticks{Lo: most, Hi: least, Unknown: true}}:          api.ErrForm,
		set(0, -top-1, 0, 0):                                     api.ErrRange,
		set(0, 0, top+1, 0):                                      api.ErrRange,
		set(0, top+1, 0, 0):                                      api.ErrRange,
		set(0, 1, 0, 0):                                          api.ErrOrder,
		set(0, top, -top, 0):                                     api.ErrOrder,
		set(end+1, 1, 0, 0):                                      api.ErrOrder,
		set(0, end+2, end+1, 0):                                  api.ErrOrder,
		set(0, 1, 0, -1):                                         api.ErrOrder,
		set(end+1, 0, 0, 0):                                      api.ErrRange,
		set(-end-1, 0, 0, 0):                                     api.ErrRange,
		set(most, 0, 0, 0):                                       api.ErrRange,
		set(least, 0, 0, 0):                                      api.ErrRange,
		set(0, -end-1, 0, 0):                                     api.ErrRange,
		set(0, -end-1, -end-1, 0):                                api.ErrRange,
		set(0, 0, end+1, 0):                                      api.ErrRange,
		set(0, end+1, end+1, 0):                                  api.ErrRange,
		set(0, -top, top, 0):                                     api.ErrRange,
		set(0, 0, 0, -1):                                         api.ErrRange,
		set(0, 0, 0, 100_001):                                    api.ErrRange,
		set(0, 0, 0, most):                                       api.ErrRange,
		set(0, 0, 0, least):                                      api.ErrRange,
		{At: none, Drift: -1}:                                    api.ErrRange,
		{At: none, Drift: 100_001}:                               api.ErrRange,
		{At: none, Set: end + 1}:                                 api.ErrRange,
		{At: none, Set: -end - 1}:                                api.ErrRange,
	}
}

// full returns as many legs as a simulated clock can have, and some more or less.
func full(more int) [][2]int64 {
	legs := make([][2]int64, clock.MaxLegs+more)
	for i := range legs {
		legs[i] = [2]int64{int64(i), int64(i) - 9}
	}
	return legs
}

// validRuns returns simulated clocks: ordinary ones, and ones at the limits.
func validRuns() []clock.Run {
	const life, drift = clock.MaxLife, clock.MaxDrift
	list := []clock.Run{
		run(0, 0), run(50, 10, [2]int64{100, 100_000}, [2]int64{50, -100_000}), run(-3, -8, [2]int64{7, 1}, [2]int64{0, 5}, [2]int64{9, -1}),
		run(end, end), run(-end, -end), run(end, -end, [2]int64{life, drift}), run(-end, end, [2]int64{life, -drift}), run(end, end-life, [2]int64{life, drift}, [2]int64{life, drift}, [2]int64{life, drift}),
		run(0, 0, [2]int64{life, drift}), run(0, 0, [2]int64{life, -drift}), run(0, 0, [2]int64{life - 1, drift}, [2]int64{life, -drift}), run(0, 0, [2]int64{0, drift}, [2]int64{life, 0}),
		run(5, 6, full(0)...), run(5, 6, full(-1)...),
	}
	for i := range uint64(20) {
		r := run(api.Tick(chance(i, 1<<40))-1<<39, api.Tick(chance(i+100, 1<<40))-1<<39)
		for j := range chance(i+200, 12) {
			state := 1000*i + uint64(j)
			r.Legs = append(r.Legs, clock.Leg{For: api.Tick(chance(state, 1<<(2*i+1))), Ppm: chance(state+300, 2*drift+1) - drift})
		}
		list = append(list, r)
	}
	return list
}

// faultyRun is a simulated clock that is not valid, with its error.
type faultyRun struct {
	r clock.Run
	e api.Errno
}

// faultyRuns returns simulated clocks with each error, and with several.
func faultyRuns() []faultyRun {
	const life, drift = clock.MaxLife, clock.MaxDrift
	good := [2]int64{5, 5}
	return []faultyRun{
		{run(end+1, 0), api.ErrRange}, {run(-end-1, 0), api.ErrRange}, {run(most, 0), api.ErrRange}, {run(least, 0), api.ErrRange},
		{run(0, end+1), api.ErrRange}, {run(0, -end-1), api.ErrRange}, {run(0, most), api.ErrRange}, {run(0, least), api.ErrRange},
		{run(end+1, 0, full(1)...), api.ErrRange}, {run(0, -end-1, full(1)...), api.ErrRange},
		{run(0, 0, full(1)...), api.ErrLarge}, {run(0, 0, full(100)...), api.ErrLarge}, {run(0, 0, append(full(1), [2]int64{-1, 0})...), api.ErrLarge}, {run(0, 0, append([][2]int64{{-1, 0}}, full(0)...)...), api.ErrLarge},
		{run(0, 0, [2]int64{-1, 0}), api.ErrRange}, {run(0, 0, [2]int64{life + 1, 0}), api.ErrRange}, {run(0, 0, [2]int64{least, 0}), api.ErrRange}, {run(0, 0, [2]int64{most, 0}), api.ErrRange},
		{run(0, 0, [2]int64{0, -drift - 1}), api.ErrRange}, {run(0, 0, [2]int64{0, drift + 1}), api.ErrRange}, {run(0, 0, [2]int64{0, least}), api.ErrRange}, {run(0, 0, [2]int64{0, most}), api.ErrRange},
		{run(0, 0, good, [2]int64{-1, 0}), api.ErrRange}, {run(0, 0, good, good, [2]int64{5, drift + 1}, good), api.ErrRange}, {run(0, 0, append(full(-1), [2]int64{0, -drift - 1})...), api.ErrRange},
	}
}
