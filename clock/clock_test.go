package clock_test

import (
	"testing"

	"spyglass/api"
	"spyglass/bound"
	"spyglass/clock"
)

// Chapter 8: the limits are those of the document.
func TestLimits(t *testing.T) {
	if clock.Million != 1_000_000 || clock.MaxDrift != 100_000 || clock.MaxLife != 1<<40 || clock.MaxLegs != 64 || clock.MaxClocks != 64 {
		t.Error("a limit is wrong")
	}
}

// P8.1: valid clocks, each error, the limits, and the order of the errors.
func TestCheck(t *testing.T) {
	valid := append(validClocks(), clock.Clock{At: none}, clock.Clock{Set: end, At: none, Drift: 100_000}, clock.Clock{Set: -end, At: none})
	for _, c := range valid {
		if e := clock.Check(c); e != api.OK {
			t.Errorf("Check(%v) is %d", c, e)
		}
	}
	for c, want := range faultyClocks() {
		if e := clock.Check(c); e != want {
			t.Errorf("Check(%v) is %d, not %d", c, e, want)
		}
	}
}

// P8.2: hand-written bounds, the example, and the edges of what can be told.
func TestKnownUniform(t *testing.T) {
	c := set(1000, 5000, 5010, 100_000)
	for i, x := range []struct {
		c     clock.Clock
		shown api.Tick
		want  ticks
	}{
		{c, 1100, ticks{Lo: 5090, Hi: 5123}}, {c, 1000, ticks{Lo: 5000, Hi: 5012}}, {c, 1001, ticks{Lo: 5000, Hi: 5013}}, {c, 1002, ticks{Lo: 5000, Hi: 5014}}, {c, 1003, ticks{Lo: 5001, Hi: 5015}}, {c, 1008, ticks{Lo: 5006, Hi: 5020}}, {c, 1009, ticks{Lo: 5007, Hi: 5022}}, {c, 999, none},
		{c, least, none}, {c, most, none}, {c, -1000, none}, {c, end + 1, none},
		// 2^44 - 1001 and 2^44 - 999 ticks, at 11/10 and at 9/10 of the exact rate.
		{c, end, ticks{Lo: 15992896403104 + 5000, Hi: 19546873381575 + 5010}},
		// Without drift, the values that are rounded down leave a tick on each side.
		{set(0, 0, 0, 0), 0, ticks{Lo: 0, Hi: 1}}, {set(0, 0, 0, 0), 1, ticks{Lo: 0, Hi: 2}}, {set(0, 0, 0, 0), 2, ticks{Lo: 1, Hi: 3}}, {set(-5, 7, 9, 0), 5, ticks{Lo: 16, Hi: 20}},
		{set(0, 0, 0, 1), 1_000_001, ticks{Lo: 999_999, Hi: 1_000_004}}, {set(0, 0, 0, 1), 1_000_002, ticks{Lo: 1_000_000, Hi: 1_000_005}}, {set(0, 0, 0, 1), 999_998, ticks{Lo: 999_996, Hi: 1_000_000}}, {set(0, 0, 0, 1), 999_999, ticks{Lo: 999_997, Hi: 1_000_002}},
		{set(end, 3, 4, 100_000), end, ticks{Lo: 3, Hi: 6}}, {set(-end, -end, -end, 0), -end, ticks{Lo: -end, Hi: 1 - end}}, {set(-end, -end, -end, 0), end, ticks{Lo: end - 1, Hi: end + 1}}, {set(-end, -end, -end, 0), -end - 1, none}, {set(-end, end, end, 0), end, ticks{Lo: 3*end - 1, Hi: 3*end + 1}},
		{clock.Clock{At: none}, 5, none}, {clock.Clock{At: none, Drift: 7}, 0, none}, {clock.Clock{}, 0, ticks{Hi: 1}},
	} {
		if b := clock.Uniform(x.c, x.shown); b != x.want {
			t.Errorf("case %d: got %v, want %v", i, b, x.want)
		}
	}
}

// P8.3: hand-written bounds, and the edges of what can be told.
func TestKnownShow(t *testing.T) {
	c := set(1000, 5000, 5010, 100_000)
	for i, x := range []struct {
		c    clock.Clock
		t    api.Tick
		want ticks
	}{
		{c, 5110, ticks{Lo: 1090, Hi: 1122}}, {c, 5010, ticks{Lo: 1000, Hi: 1012}}, {c, 5011, ticks{Lo: 1000, Hi: 1013}}, {c, 5012, ticks{Lo: 1001, Hi: 1014}}, {c, 5019, ticks{Lo: 1008, Hi: 1021}}, {c, 5020, ticks{Lo: 1009, Hi: 1023}}, {c, 5009, none}, {c, 5000, none},
		{c, least, none}, {c, most, none}, {c, -5110, none}, {c, end + 1, none},
		// 2^44 - 5010 and 2^44 - 5000 ticks, at 9/10 and at 11/10 of the exact rate.
		{c, end, ticks{Lo: 15832967435465 + 1000, Hi: 19351404643357 + 1001}},
		{set(0, 0, 0, 0), 0, ticks{Lo: 0, Hi: 1}}, {set(0, 0, 0, 0), 7, ticks{Lo: 7, Hi: 8}}, {set(-5, 7, 9, 0), 12, ticks{Lo: -2, Hi: 1}}, {set(0, 0, 0, 1), 1_000_000, ticks{Lo: 999_999, Hi: 1_000_002}}, {set(0, 0, 0, 1), 999_999, ticks{Lo: 999_998, Hi: 1_000_000}},
		{set(3, end, end, 100_000), end, ticks{Lo: 3, Hi: 4}}, {set(end, -end, -end, 0), end, ticks{Lo: 3 * end, Hi: 3*end + 1}}, {set(0, -end, -end, 0), -end, ticks{Lo: 0, Hi: 1}}, {set(0, -end, -end, 0), -end - 1, none},
		{clock.Clock{At: none}, 5, none}, {clock.Clock{At: none, Drift: 7}, 0, none}, {clock.Clock{}, 0, ticks{Hi: 1}},
	} {
		if b := clock.Show(x.c, x.t); b != x.want {
			t.Errorf("case %d: got %v, want %v", i, b, x.want)
		}
	}
}

// P8.2, P8.3: invalid clocks tell nothing.
func TestFaultyClocksTellNothing(t *testing.T) {
	for c := range faultyClocks() {
		for _, x := range []api.Tick{least, -end, -1, 0, 1, 5, end, most} {
			if clock.Uniform(c, x) != none || clock.Show(c, x) != none {
				t.Errorf("%v at %d: %v, %v", c, x, clock.Uniform(c, x), clock.Show(c, x))
			}
		}
	}
}

// moments returns times from a time on: the next ones, some at all distances, and the last ones.
func moments(from api.Tick) []api.Tick {
	list := []api.Tick{from, from + 1, from + 2, from + 999_999, from + 1_000_000, from + 1_000_001, end - 1, end}
	for i := range uint64(44) {
		list = append(list, from+1<<i+api.Tick(chance(i+uint64(from)&1023, 1<<i)))
	}
	kept := list[:0]
	for _, x := range list {
		if from <= x && x <= end {
			kept = append(kept, x)
		}
	}
	return kept
}

// P8.2, P8.3: comparison with the quotients of the document in long whole numbers.
func TestExact(t *testing.T) {
	const million = 1_000_000
	for _, c := range validClocks() {
		for _, shown := range moments(c.Set) {
			d := int64(shown - c.Set)
			want := ticks{Lo: c.At.Lo + floor(max(d-1, 0), million, million+c.Drift), Hi: c.At.Hi + ceil(d+1, million, million-c.Drift)}
			if b := clock.Uniform(c, shown); b != want || bound.Check(b) != api.OK {
				t.Errorf("Uniform(%v, %d): got %v, want %v", c, shown, b, want)
			}
		}
		for _, u := range moments(c.At.Hi) {
			want := ticks{Lo: c.Set + floor(int64(u-c.At.Hi), million-c.Drift, million), Hi: c.Set + floor(int64(u-c.At.Lo), million+c.Drift, million) + 1}
			if b := clock.Show(c, u); b != want || bound.Check(b) != api.OK {
				t.Errorf("Show(%v, %d): got %v, want %v", c, u, b, want)
			}
		}
	}
}
