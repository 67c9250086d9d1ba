package scale_test

import (
	"math/big"
	"testing"

	"spyglass/api"
	"spyglass/bound"
	"spyglass/frac"
	"spyglass/scale"
)

// P7.7: the rate of the earth is valid, and turns it once in 86164.0905 seconds.
func TestEarth(t *testing.T) {
	if r := scale.Earth(); r != (api.Frac{Num: 41072144766976, Den: 823974609375}) || frac.Check(r) != api.OK {
		t.Errorf("Earth is %v", r)
	}
	if u, e := scale.When(api.Rate{Arcs: scale.Earth()}, 1, 0); u != 86_164_091 || e != api.OK {
		t.Errorf("a turn takes %d, %d", u, e)
	}
}

// P7.7: valid rotations, each error, and the order of the errors.
func TestCheckRate(t *testing.T) {
	for _, r := range validRates() {
		if e := scale.CheckRate(r); e != api.OK {
			t.Errorf("CheckRate(%v) is %d", r, e)
		}
	}
	for r, want := range faultyRates() {
		if e := scale.CheckRate(r); e != want {
			t.Errorf("CheckRate(%v) is %d, not %d", r, e, want)
		}
	}
}

// P7.8: hand-written bounds, with an angle and a time of the rotation other than 0.
func TestKnownAngles(t *testing.T) {
	half, third := rate(0, 5, 7, 2), rate(10, 100, 1, 3)
	for i, c := range []struct {
		r    api.Rate
		t    ticks
		want arcs
	}{
		{half, ticks{Lo: 1, Hi: 2}, arcs{Lo: 8, Hi: 12}}, {half, ticks{Lo: 1, Hi: 1}, arcs{Lo: 8, Hi: 9}}, {half, ticks{Lo: 0, Hi: 0}, arcs{Lo: 5, Hi: 5}}, {half, ticks{Lo: -1, Hi: 1}, arcs{Lo: 1, Hi: 9}}, {half, ticks{Lo: -2, Hi: -1}, arcs{Lo: -2, Hi: 2}},
		{third, ticks{Lo: 10, Hi: 10}, arcs{Lo: 100, Hi: 100}}, {third, ticks{Lo: 9, Hi: 11}, arcs{Lo: 99, Hi: 101}}, {third, ticks{Lo: 7, Hi: 13}, arcs{Lo: 99, Hi: 101}}, {third, ticks{Lo: 6, Hi: 14}, arcs{Lo: 98, Hi: 102}}, {third, ticks{Lo: 11, Hi: 12}, arcs{Lo: 100, Hi: 101}}, {third, ticks{Lo: -300, Hi: -300}, arcs{Lo: -4, Hi: -3}},
		// The angle is not reduced to a turn.
		{rate(0, turn-1, 1<<16, 1), ticks{Lo: 1 << 16, Hi: 1 << 20}, arcs{Lo: 2*turn - 1, Hi: 17*turn - 1}},
	} {
		if b := scale.Sidereal(c.r, c.t); b != c.want {
			t.Errorf("case %d: got %v, want %v", i, b, c.want)
		}
	}
}

// P7.8: nothing is known beyond each of the limits, and up to them something is.
func TestLimitsOfAngles(t *testing.T) {
	unknown := arcs{Unknown: true}
	slow, early, late := rate(0, 0, 1, 16), rate(-1000, 3, 1, 1<<20), rate(1000, 3, 1, 1<<20)
	for i, c := range []struct {
		r    api.Rate
		t    ticks
		want arcs
	}{
		{slow, ticks{Unknown: true}, unknown}, {slow, ticks{Lo: 2, Hi: 1}, unknown}, {slow, ticks{Hi: top + 1}, unknown}, {slow, ticks{Lo: least, Hi: most}, unknown}, {slow, ticks{Lo: 1, Hi: 1, Unknown: true}, unknown},
		{slow, ticks{Lo: -top, Hi: top}, arcs{Lo: -top / 16, Hi: top / 16}},
		// The time since At.
		{early, ticks{Hi: top - 1000}, arcs{Lo: 3, Hi: 3 + 1<<40}}, {early, ticks{Hi: top - 999}, unknown}, {early, ticks{Lo: top - 999, Hi: top - 999}, unknown}, {early, ticks{Lo: -top}, arcs{Lo: 3 - 1<<40, Hi: 4}},
		{late, ticks{Lo: 1000 - top, Hi: 1000}, arcs{Lo: 3 - 1<<40, Hi: 3}}, {late, ticks{Lo: 999 - top, Hi: 1000}, unknown}, {late, ticks{Lo: 999 - top, Hi: 999 - top}, unknown}, {late, ticks{Lo: 1000, Hi: top}, arcs{Lo: 3, Hi: 3 + 1<<40}},
		// The result without Angle, and with it.
		{rate(0, 0, 1, 1), ticks{Lo: -top, Hi: top}, arcs{Lo: -top, Hi: top}}, {rate(0, 1, 1, 1), ticks{Hi: top}, unknown}, {rate(0, 1, 1, 1), ticks{Hi: top - 1}, arcs{Lo: 1, Hi: top}}, {rate(0, 1, 1, 1), ticks{Lo: -top}, arcs{Lo: 1 - top, Hi: 1}},
		{rate(0, 9, 2, 1), ticks{Lo: -top / 2}, arcs{Lo: 9 - top, Hi: 9}}, {rate(0, 9, 2, 1), ticks{Lo: -top/2 - 1}, unknown}, {rate(0, 9, 2, 1), ticks{Hi: top / 2}, unknown}, {rate(0, 9, 2, 1), ticks{Hi: top/2 - 5}, arcs{Lo: 9, Hi: top - 1}}, {rate(0, 9, 2, 1), ticks{Hi: top/2 - 4}, unknown},
		{rate(0, 0, 3, 2), ticks{Lo: -top, Hi: top}, unknown}, {rate(0, turn-1, 1<<16, 1), ticks{Lo: top, Hi: top}, unknown}, {rate(0, turn-1, 1<<16, 1), ticks{Lo: -top, Hi: -top}, unknown},
		{rate(0, 0, 1<<16, 1), ticks{Lo: -1 << 44, Hi: 1 << 44}, arcs{Lo: -top, Hi: top}}, {rate(0, 0, 1<<16, 1), ticks{Hi: 1<<44 + 1}, unknown}, {rate(0, 0, 1<<16, 1), ticks{Lo: -1<<44 - 1}, unknown},
	} {
		if b := scale.Sidereal(c.r, c.t); b != c.want {
			t.Errorf("case %d: got %v, want %v", i, b, c.want)
		}
	}
	for r := range faultyRates() {
		if b := scale.Sidereal(r, ticks{}); b != unknown {
			t.Errorf("Sidereal of %v is %v", r, b)
		}
	}
}

// someTicks returns times about 0 and the time of r, at the limits, and some without structure; not all of them are in time.
func someTicks(r api.Rate) []api.Tick {
	list := []api.Tick{0, 1, -1, r.At, r.At + 1, r.At - 1, end, -end, end - 1, end + 1, -end - 1, top, -top, top - 5, r.At + top, r.At - top, r.At + top + 1, r.At - top - 1}
	for i := range uint64(20) {
		list = append(list, api.Tick(chance(i, 2*end)-end), r.At+api.Tick(chance(i+50, 2000)-1000), api.Tick(chance(i+100, 2*top)-top))
	}
	return list
}

// exactSidereal returns the result of Sidereal by P7.8, for a valid rotation.
func exactSidereal(r api.Rate, t ticks) arcs {
	limit := big.NewInt(top)
	still := r
	still.Angle = 0
	for _, x := range []*big.Int{big.NewInt(int64(t.Lo - r.At)), big.NewInt(int64(t.Hi - r.At)), floor(exactAngle(r, t.Lo)), ceil(exactAngle(r, t.Hi)), floor(exactAngle(still, t.Lo)), ceil(exactAngle(still, t.Hi))} {
		if x.CmpAbs(limit) > 0 {
			return arcs{Unknown: true}
		}
	}
	return arcs{Lo: api.Arc(floor(exactAngle(r, t.Lo)).Int64()), Hi: api.Arc(ceil(exactAngle(r, t.Hi)).Int64())}
}

// P7.8: comparison with exact rational numbers.
func TestSiderealExact(t *testing.T) {
	known := 0
	for _, r := range validRates() {
		list := someTicks(r)
		for _, lo := range list {
			for _, hi := range list {
				b := ticks{Lo: lo, Hi: hi}
				want := arcs{Unknown: true}
				if bound.Check(b) == api.OK {
					want = exactSidereal(r, b)
				}
				if !want.Unknown {
					known++
				}
				if got := scale.Sidereal(r, b); got != want {
					t.Fatalf("Sidereal(%v, %v) is %v, not %v", r, b, got, want)
				}
			}
		}
	}
	if known < 10_000 {
		t.Errorf("only %d results are known", known)
	}
}

// P7.8: Sidereal is isotone: the result of a bound inside another one is inside its result.
func TestSiderealIsotone(t *testing.T) {
	for _, r := range validRates() {
		list := someTicks(r)
		for i, lo := range list {
			for j, hi := range list {
				outer, inner := ticks{Lo: lo, Hi: hi}, ticks{Lo: lo + api.Tick(i*i), Hi: hi - api.Tick(j)}
				if bound.Check(outer) == api.OK && bound.Check(inner) == api.OK && !bound.Inside(scale.Sidereal(r, inner), scale.Sidereal(r, outer)) {
					t.Fatalf("%v: Sidereal of %v is not inside that of %v", r, inner, outer)
				}
			}
		}
	}
}

// P7.8: angles by hand, reduced to a turn; and without a valid rotation or time.
func TestAngle(t *testing.T) {
	half := rate(0, 5, 7, 2)
	for i, c := range []struct {
		r    api.Rate
		t    api.Tick
		want api.Arc
	}{
		{half, 0, 5}, {half, 1, 8}, {half, 2, 12}, {half, -1, 1}, {half, -2, turn - 2}, {half, -3, turn - 6},
		{rate(10, turn-1, 1, 1), 10, turn - 1}, {rate(10, turn-1, 1, 1), 11, 0}, {rate(10, turn-1, 1, 1), 12, 1}, {rate(10, 0, 1, 2), 9, turn - 1}, {rate(10, 0, 1, 2), 11, 0},
		{rate(-end, 7, 1<<16, 1), end, 7}, {rate(end, 7, 1<<16, 1), -end, 7}, {rate(-end, turn-1, 1<<16, 1), end - 1, turn - 1 - 1<<16}, {rate(end, 3, 1<<16, 1), 1 - end, 3 + 1<<16},
		{rate(0, 9, 1, 1), end + 1, 0}, {rate(0, 9, 1, 1), -end - 1, 0}, {rate(0, 9, 1, 1), most, 0}, {rate(0, 9, 1, 1), least, 0}, {rate(0, 9, 1, 1), end, 9 + end%turn},
	} {
		if a := scale.Angle(c.r, c.t); a != c.want {
			t.Errorf("case %d: got %d, want %d", i, a, c.want)
		}
	}
	for r := range faultyRates() {
		for _, u := range []api.Tick{0, 1, 999} {
			if a := scale.Angle(r, u); a != 0 {
				t.Errorf("Angle(%v, %d) is %d", r, u, a)
			}
		}
	}
}

// P7.8: comparison with exact rational numbers.
func TestAngleExact(t *testing.T) {
	for _, r := range validRates() {
		for _, u := range someTicks(r) {
			want := new(big.Int)
			if -end <= u && u <= end {
				want.Mod(floor(exactAngle(r, u)), big.NewInt(turn))
			}
			if a := scale.Angle(r, u); int64(a) != want.Int64() {
				t.Fatalf("Angle(%v, %d) is %d, not %v", r, u, a, want)
			}
		}
	}
}

// P7.9: hand-written times, each error, and the order of the errors.
func TestKnownWhen(t *testing.T) {
	half, slow, fast := rate(0, 5, 7, 2), rate(0, 0, 1, 3), rate(0, 0, 1<<16, 1)
	for i, c := range []struct {
		r    api.Rate
		from api.Tick
		a    api.Arc
		want api.Tick
		e    api.Errno
	}{
		{half, 0, 5, 0, api.OK}, {half, 0, 6, 1, api.OK}, {half, 0, 8, 1, api.OK}, {half, 0, 9, 2, api.OK}, {half, 0, 12, 2, api.OK}, {half, 0, 4, 1227133513, api.OK}, {half, 3, 15, 3, api.OK}, {half, 3, 16, 4, api.OK},
		// The angle is rounded down, so it may stay for some ticks; the first time is not before from.
		{slow, 0, 0, 0, api.OK}, {slow, 1, 0, 1, api.OK}, {slow, 2, 0, 2, api.OK}, {slow, 3, 0, 3 * turn, api.OK}, {slow, 2, 1, 3, api.OK}, {slow, -1, turn - 1, -1, api.OK}, {slow, -1, 0, 0, api.OK}, {slow, -2, turn - 1, -2, api.OK}, {slow, -4, turn - 1, -3, api.OK}, {slow, -4, turn - 2, -4, api.OK},
		// It may pass over a in one tick.
		{fast, 0, 1, 1, api.OK}, {fast, 0, 1 << 16, 1, api.OK}, {fast, 0, 1<<16 + 1, 2, api.OK}, {fast, 0, turn - 1, 1 << 16, api.OK}, {fast, 1, 0, 1 << 16, api.OK}, {fast, -1, turn - 1, 0, api.OK},
		{rate(100, 7, 1, 1), 100, 7, 100, api.OK}, {rate(100, 7, 1, 1), 100, 8, 101, api.OK}, {rate(100, 7, 1, 1), 100, 6, 99 + turn, api.OK}, {rate(100, 7, 1, 1), 0, 0, 93, api.OK}, {rate(-100, 7, 1, 1), -50, 60, -47, api.OK},
		{rate(0, 0, 1, 1), end - 5, 0, end, api.OK}, {rate(0, 0, 1, 1), end, 1, 0, api.ErrLarge}, {rate(0, 0, 1, 1), end, 0, end, api.OK}, {rate(0, 0, 1, 1), end - 1, 0, end, api.OK}, {rate(0, 0, 1, 1), -end, 0, -end, api.OK}, {rate(0, 0, 1, 1), -end, 1, 1 - end, api.OK}, {rate(0, 0, 1, 1), end - 1, 1, 0, api.ErrLarge},
		{rate(0, 0, 1, top), 0, 1, 0, api.ErrLarge}, {rate(0, 0, 1, top), 0, turn - 1, 0, api.ErrLarge}, {rate(-end, 0, 1, top), end, 1, 0, api.ErrLarge}, {rate(0, 0, 1, top), -end, turn - 1, -end, api.OK}, {rate(0, 0, 1, top), -end, 0, 0, api.OK}, {rate(0, 0, 1, top), -end, 1, 0, api.ErrLarge}, {rate(end, 0, 1, top), -end, 0, end, api.OK}, {rate(end, 0, 1, top), end, 1, 0, api.ErrLarge},
		{rate(0, 0, 1, 1<<44), 0, 1, end, api.OK}, {rate(1, 0, 1, 1<<44), 0, 1, 0, api.ErrLarge}, {rate(-1, 0, 1, 1<<44), 0, 1, end - 1, api.OK}, {rate(-end, 0, 1, 1<<45), 0, 1, end, api.OK}, {rate(-end, 0, 1, 1<<45-1), 0, 1, end - 1, api.OK}, {rate(-end, 0, 1, 1<<45+1), 0, 1, 0, api.ErrLarge},
		{half, end + 1, 5, 0, api.ErrRange}, {half, -end - 1, 5, 0, api.ErrRange}, {half, most, 5, 0, api.ErrRange}, {half, least, 5, 0, api.ErrRange}, {half, 0, -1, 0, api.ErrRange}, {half, 0, turn, 0, api.ErrRange}, {half, 0, most, 0, api.ErrRange}, {half, 0, least, 0, api.ErrRange},
	} {
		if u, e := scale.When(c.r, c.from, c.a); u != c.want || e != c.e {
			t.Errorf("case %d: got %d, %d, want %d, %d", i, u, e, c.want, c.e)
		}
	}
	for r, want := range faultyRates() {
		for _, from := range []api.Tick{0, end + 1} {
			if u, e := scale.When(r, from, turn); u != 0 || e != want {
				t.Errorf("When of %v: got %d, %d, want %d", r, u, e, want)
			}
		}
	}
}

// P7.9: comparison with the definition: F reaches v at the result, and not one tick earlier unless that is before from.
func TestWhenExact(t *testing.T) {
	late := 0
	for i, r := range validRates() {
		for j, from := range someTicks(r) {
			if from < -end || from > end {
				continue
			}
			start := floor(exactAngle(r, from))
			angles := []int64{0, 1, turn - 1, turn / 2, chance(uint64(i*100+j), turn)}
			for d := int64(-2); d <= 2; d++ {
				angles = append(angles, new(big.Int).Mod(new(big.Int).Add(start, big.NewInt(d)), big.NewInt(turn)).Int64())
			}
			for _, a := range angles {
				ahead := new(big.Int).Sub(big.NewInt(a), start)
				goal := new(big.Int).Add(start, ahead.Mod(ahead, big.NewInt(turn)))
				reached := func(t api.Tick) bool { return floor(exactAngle(r, t)).Cmp(goal) >= 0 }
				u, e := scale.When(r, from, api.Arc(a))
				switch {
				case e == api.ErrLarge && u == 0 && !reached(end):
					late++
				case e != api.OK || u < from || u > end || !reached(u) || u > from && reached(u-1):
					t.Fatalf("When(%v, %d, %d): got %d, %d", r, from, a, u, e)
				}
			}
		}
	}
	if late < 100 {
		t.Errorf("only %d times were too late", late)
	}
}
