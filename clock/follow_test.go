package clock_test

import (
	"testing"

	"spyglass/api"
	"spyglass/bound"
	"spyglass/clock"
)

// reads returns what a simulated clock shows at a time at which it shows something.
func reads(t *testing.T, r clock.Run, u api.Tick) api.Tick {
	t.Helper()
	n, e := clock.Reads(r, u)
	if e != api.OK {
		t.Fatalf("Reads(%v, %d) is %d", r, u, e)
	}
	return n
}

// follow tests that what is known of a simulated clock is true at a time.
func follow(t *testing.T, c clock.Clock, r clock.Run, u api.Tick) {
	t.Helper()
	shown := reads(t, r, u)
	if b := clock.Uniform(c, shown); !bound.Has(b, u) {
		t.Fatalf("%v shows %d at %d, but Uniform(%v) is %v", r, shown, u, c, b)
	}
	if b := clock.Show(c, u); !bound.Has(b, shown) {
		t.Fatalf("%v shows %d at %d, but Show(%v) is %v", r, shown, u, c, b)
	}
}

// runs returns simulated clocks that show 20 at time 10, with short legs and rates from -drift to drift.
func runs(drift int64) []clock.Run {
	list := []clock.Run{
		run(20, 10), run(20, 10, [2]int64{1 << 40, drift}), run(20, 10, [2]int64{1 << 40, -drift}), run(20, 10, [2]int64{30, drift}, [2]int64{30, -drift}), run(20, 10, [2]int64{30, -drift}, [2]int64{30, drift}),
		run(20, 10, [2]int64{1, drift}, [2]int64{9, -drift}, [2]int64{1, drift}, [2]int64{14, -drift}, [2]int64{25, drift}),
	}
	for i := range uint64(25) {
		r := run(20, 10)
		for j := range chance(i, 9) {
			state := 100*i + uint64(j)
			r.Legs = append(r.Legs, clock.Leg{For: api.Tick(chance(state, 40)), Ppm: chance(state+5, 2*drift+1) - drift})
		}
		list = append(list, r)
	}
	return list
}

// drifts returns drifts from none to the greatest one.
func drifts() []int64 { return []int64{0, 1, 500, 33_333, 99_999, 100_000} }

// P8.7: clocks that are known exactly and with play, tick by tick.
func TestFollow(t *testing.T) {
	for _, drift := range drifts() {
		for _, r := range runs(drift) {
			for _, play := range [][2]api.Tick{{0, 0}, {0, 1}, {3, 0}, {5, 9}} {
				c := set(20, 10-play[0], 10+play[1], drift)
				for u := api.Tick(10); u < 150; u++ {
					follow(t, c, r, u)
				}
			}
		}
	}
}

// P8.7: long lives, and clocks near the limits of time, where bounds may be unknown.
func TestFollowLong(t *testing.T) {
	for i, r := range validRuns() {
		drift := int64(0)
		for _, leg := range r.Legs {
			drift = max(drift, leg.Ppm, -leg.Ppm)
		}
		early, late := api.Tick(chance(uint64(i), 100)), api.Tick(chance(uint64(i)+50, 100))
		c := set(r.Set, max(r.At-early, -end), min(r.At+late, end), drift)
		for _, u := range moments(r.At) {
			if u <= r.At+clock.MaxLife {
				follow(t, c, r, u)
			}
		}
	}
}

// P8.7: every exchange of messages with a clock, also of which nothing is known at first, tick by tick.
func TestFollowSync(t *testing.T) {
	for _, drift := range drifts() {
		for i, r := range runs(drift) {
			for j := range uint64(300) {
				state := uint64(i)*1000 + j
				c := set(20, 10-api.Tick(chance(state, 6)), 10+api.Tick(chance(state+1, 6)), drift)
				if j%5 == 0 {
					c.At = none
				}
				sent := 10 + api.Tick(chance(state+2, 60))
				moment := sent + api.Tick(chance(state+3, 9))
				got := moment + api.Tick(chance(state+4, 9))
				told := ticks{Lo: moment - api.Tick(chance(state+5, 4)), Hi: moment + api.Tick(chance(state+6, 4))}
				d, e := clock.Sync(c, reads(t, r, sent), reads(t, r, got), told)
				if e != api.OK {
					t.Fatalf("%v is asked at %d and answered at %d of %d with %v: %d", r, sent, got, moment, told, e)
				}
				for u := got; u < got+60; u++ {
					follow(t, d, r, u)
				}
			}
		}
	}
}

// P8.7: a clock that is set again and again, each time from what is known of it.
func TestFollowSyncs(t *testing.T) {
	for _, drift := range drifts() {
		for i := range uint64(40) {
			r := run(-500_000, 1_000_000)
			for j := range uint64(30) {
				r.Legs = append(r.Legs, clock.Leg{For: api.Tick(chance(100*i+j, 3_000_000)), Ppm: (2*chance(100*i+j+7, 2) - 1) * drift})
			}
			c, u := clock.Clock{Set: -500_000, At: none, Drift: drift}, api.Tick(1_000_000)
			for j := range uint64(30) {
				state := 1000*i + j
				u += api.Tick(chance(state, 2_000_000))
				sent, moment := reads(t, r, u), u+api.Tick(chance(state+1, 300))
				u = moment + api.Tick(chance(state+2, 300))
				told := ticks{Lo: moment - api.Tick(chance(state+3, 20)), Hi: moment + api.Tick(chance(state+4, 20))}
				if j%7 == 6 {
					told = none
				}
				d, e := clock.Sync(c, sent, reads(t, r, u), told)
				if e != api.OK {
					t.Fatalf("exchange %d of %v: %d", j, r, e)
				}
				if width, ok := bound.Width(d.At); !told.Unknown && (!ok || width > 1000) {
					t.Fatalf("exchange %d of %v sets the clock to %v", j, r, d)
				}
				c = d
				for k := range uint64(20) {
					follow(t, c, r, u+api.Tick(chance(state+k, 1<<(k+1))))
				}
			}
		}
	}
}
