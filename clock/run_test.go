package clock_test

import (
	"math/big"
	"testing"

	"spyglass/api"
	"spyglass/clock"
)

// P8.6: valid simulated clocks, each error, the limits, and the order of the errors.
func TestCheckRun(t *testing.T) {
	for _, r := range validRuns() {
		if e := clock.CheckRun(r); e != api.OK {
			t.Errorf("CheckRun(%v) is %d", r, e)
		}
	}
	for _, x := range faultyRuns() {
		if e := clock.CheckRun(x.r); e != x.e {
			t.Errorf("CheckRun(%v) is %d, not %d", x.r, e, x.e)
		}
	}
}

// P8.6: hand-written readings: before, between and after the legs, and at the limits.
func TestKnownReads(t *testing.T) {
	const life, drift = clock.MaxLife, clock.MaxDrift
	two := run(50, 10, [2]int64{100, drift}, [2]int64{50, -drift})
	for i, x := range []struct {
		r    clock.Run
		t    api.Tick
		want api.Tick
	}{
		// The clock gains 110 ticks in 100, and 45 in the next 50.
		{two, 10, 50}, {two, 11, 51}, {two, 13, 53}, {two, 19, 59}, {two, 20, 61}, {two, 21, 62}, {two, 60, 105}, {two, 109, 158}, {two, 110, 160}, {two, 111, 160}, {two, 112, 161}, {two, 120, 169}, {two, 121, 169}, {two, 160, 205}, {two, 161, 206}, {two, 170, 215}, {two, 10 + life, 45 + 10 + life},
		// A part of a tick that one leg leaves is added to the next one.
		{run(0, 0, [2]int64{1, 5}, [2]int64{1, -5}), 2, 2}, {run(0, 0, [2]int64{1, 5}, [2]int64{1, -6}), 2, 1}, {run(0, 0, [2]int64{1, -1}), 1, 0}, {run(0, 0, [2]int64{1, -1}), 5, 4}, {run(0, 0, [2]int64{1, -1}, [2]int64{1, 1}), 5, 5}, {run(-7, 0, [2]int64{1, -1}), 1, -7},
		{run(-3, -8), -8, -3}, {run(-3, -8), 4, 9}, {run(-3, -8, [2]int64{0, drift}, [2]int64{0, -drift}), 4, 9},
		{run(0, 0, [2]int64{life, drift}), life, life + 109951162777}, {run(0, 0, [2]int64{life, -drift}), life, life - 109951162778}, {run(0, 0, [2]int64{life - 1, drift}, [2]int64{life, -drift}), life, life + 109951162777},
		{run(end, -end, [2]int64{10, drift}), 10 - end, end + 11}, {run(-end, end, [2]int64{10, drift}), end, -end}, {run(end, end-life), end, end + life}, {run(-end, -end), -end, -end}, {run(0, 0, full(0)...), 2016, 2016},
	} {
		if n, e := clock.Reads(x.r, x.t); n != x.want || e != api.OK {
			t.Errorf("case %d: got %d, %d, want %d", i, n, e, x.want)
		}
	}
}

// P8.6: each error of Reads, the limits, and the order of the errors.
func TestReadsErrors(t *testing.T) {
	for i, x := range []struct {
		r clock.Run
		t api.Tick
		e api.Errno
	}{
		{run(50, 10), 9, api.ErrRange}, {run(50, 10), 10, api.OK}, {run(50, 10), 10 + clock.MaxLife, api.OK}, {run(50, 10), 11 + clock.MaxLife, api.ErrRange}, {run(50, 10), least, api.ErrRange}, {run(50, 10), most, api.ErrRange}, {run(50, -10), -11, api.ErrRange}, {run(50, -10), -10, api.OK},
		{run(0, end), end, api.OK}, {run(0, end), end + 1, api.ErrRange}, {run(0, end-5), end + 1, api.ErrRange}, {run(0, -end), -end, api.OK}, {run(0, -end), -end - 1, api.ErrRange}, {run(0, -end), clock.MaxLife - end, api.OK}, {run(0, -end), clock.MaxLife - end + 1, api.ErrRange},
	} {
		if n, e := clock.Reads(x.r, x.t); e != x.e || e != api.OK && n != 0 {
			t.Errorf("case %d: got %d, %d, want %d", i, n, e, x.e)
		}
	}
	for _, x := range faultyRuns() {
		for _, u := range []api.Tick{least, -1, 0, 5, end + 1, most} {
			if n, e := clock.Reads(x.r, u); n != 0 || e != x.e {
				t.Errorf("Reads(%v, %d): got %d, %d, want %d", x.r, u, n, e, x.e)
			}
		}
	}
}

// reading returns what a simulated clock shows, with each leg cut off at t, in rational numbers.
func reading(r clock.Run, t api.Tick) api.Tick {
	gain, begin := new(big.Rat), r.At
	for _, leg := range append(r.Legs[:len(r.Legs):len(r.Legs)], clock.Leg{For: 2 * end}) {
		length := max(0, min(leg.For, t-begin))
		gain.Add(gain, new(big.Rat).Mul(big.NewRat(int64(length), 1), big.NewRat(1_000_000+leg.Ppm, 1_000_000)))
		begin += leg.For
	}
	return r.Set + api.Tick(new(big.Int).Div(gain.Num(), gain.Denom()).Int64())
}

// P8.6: comparison with exact rational numbers, at all ends of legs and at other times.
func TestReadsExact(t *testing.T) {
	for _, r := range validRuns() {
		last := min(r.At+clock.MaxLife, end)
		list := append(moments(r.At), last, last-1)
		begin := r.At
		for _, leg := range r.Legs {
			begin += leg.For
			list = append(list, begin-1, begin, begin+1, begin-leg.For/2)
		}
		for _, u := range list {
			if u < r.At || u > last {
				continue
			}
			want := reading(r, u)
			if n, e := clock.Reads(r, u); n != want || e != api.OK {
				t.Errorf("Reads(%v, %d): got %d, %d, want %d", r, u, n, e, want)
			}
		}
	}
}
