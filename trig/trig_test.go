package trig_test

import (
	"math"
	"testing"

	"spyglass/api"
	"spyglass/trig"
)

// P6.1: values that are stated in the document or were computed apart from the program.
func TestSinOfParts(t *testing.T) {
	for i, c := range []struct {
		a        api.Arc
		sin, cos api.Fix
	}{
		{0, 0, api.One}, {turn / 4, api.One, 0}, {turn / 2, 0, -api.One}, {3 * turn / 4, -api.One, 0}, {turn, 0, api.One},
		{turn / 8, 759250125, 759250125}, {3 * turn / 8, 759250125, -759250125}, {5 * turn / 8, -759250125, -759250125}, {7 * turn / 8, -759250125, 759250125},
		{turn / 12, 536870912, 929887697}, {turn / 6, 929887696, 536870913}, {turn / 16, 410903207, 992008094},
		// Near 0 an arc is 1.57 Fix, and near a quarter of a turn the sine stays the same.
		{1, 2, api.One}, {2, 3, api.One}, {3, 5, api.One}, {-1, -2, api.One}, {turn/4 - 1, api.One, 2}, {turn/4 + 1, api.One, -2}, {turn/2 + 1, -2, -api.One},
		{-turn / 4, -api.One, 0}, {-turn / 8, -759250125, 759250125}, {7*turn + turn/8, 759250125, 759250125}, {-7*turn + turn/8, 759250125, 759250125},
		{least, 0, api.One}, {least + turn/8, 759250125, 759250125}, {most, -2, api.One}, {most + 1 - turn/4, -api.One, 0}, {most - turn/8 + 1, -759250125, 759250125},
		// Beside an eighth of a turn the two series differ by 1 here.
		{536839367, 759215087, 759285162}, {536928699, 759314307, 759185937},
		// A half, exactly, is rounded up, before the sign is set.
		{210558998, 325539717, 1023203498}, {-210558998, -325539717, 1023203498}, {370524980, 553933997, 919825327}, {370524980 + turn/2, -553933997, -919825327},
	} {
		if s, u := trig.Sin(c.a), trig.Cos(c.a); s != c.sin || u != c.cos {
			t.Errorf("case %d: %d, %d", i, s, u)
		}
	}
}

// P6.1: the values are those of the rule, in every quarter of a turn and for all sorts of angles.
func TestRule(t *testing.T) {
	for _, a := range angles() {
		if s, want := trig.Sin(a), sine(a); s != want {
			t.Errorf("Sin(%d) is %d, not %d", a, s, want)
		}
		if u, want := trig.Cos(a), cosine(a); u != want {
			t.Errorf("Cos(%d) is %d, not %d", a, u, want)
		}
	}
}

// P6.1: a run of angles where the rule changes from one series to the other, and at both ends.
func TestRuleInARow(t *testing.T) {
	for _, start := range []api.Arc{0, turn/8 - 500, turn/4 - 1000} {
		for a := start; a <= start+1000; a++ {
			if trig.Sin(a) != api.Fix(rising(int64(a))) {
				t.Fatalf("Sin(%d) is %d", a, trig.Sin(a))
			}
		}
	}
}

// P6.2: Sin and Cos differ from the real functions by at most 51/100.
func TestDeviation(t *testing.T) {
	for _, a := range angles() {
		r := float64(rest(a, turn))
		if d := math.Abs(float64(trig.Sin(a)) - realSine(r)); d > 0.51 {
			t.Errorf("Sin(%d) errs by %f", a, d)
		}
		if d := math.Abs(float64(trig.Cos(a)) - realCosine(r)); d > 0.51 {
			t.Errorf("Cos(%d) errs by %f", a, d)
		}
	}
}

// P6.2: Sin rises up to a quarter of a turn and falls up to three, in steps of every size.
func TestRisesAndFalls(t *testing.T) {
	for _, step := range []api.Arc{1, 3, 1000, 1 << 17, 7654321} {
		for _, start := range []api.Arc{0, 1 << 20, turn/16 - 99, turn/8 - 2000, turn / 7, turn/4 - 4000} {
			for i := range api.Arc(4000) {
				a := start + i*step
				if a+step > turn/4 {
					break
				}
				if trig.Sin(a) > trig.Sin(a+step) || trig.Sin(-a-step) > trig.Sin(-a) {
					t.Fatalf("Sin falls from %d to %d", a, a+step)
				}
				if b := turn/2 - a - step; trig.Sin(b) < trig.Sin(b+step) || trig.Sin(turn/2+a) < trig.Sin(turn/2+a+step) {
					t.Fatalf("Sin rises from %d to %d", b, b+step)
				}
			}
		}
	}
}

// P6.2: the signs and the mirrors of Sin; sums lose whole turns only, so they may overflow.
func TestSymmetry(t *testing.T) {
	for _, a := range angles() {
		if a != least && trig.Sin(-a) != -trig.Sin(a) {
			t.Errorf("Sin(-%d) is %d", a, trig.Sin(-a))
		}
		if trig.Sin(a+turn/2) != -trig.Sin(a) || trig.Sin(turn/2-a) != trig.Sin(a) || trig.Sin(a+turn) != trig.Sin(a) {
			t.Errorf("Sin(%d) is not mirrored", a)
		}
		if trig.Cos(-a) != trig.Cos(a) || trig.Cos(a) != trig.Sin(a+turn/4) || trig.Cos(turn/2-a) != -trig.Cos(a) {
			t.Errorf("Cos(%d) is not mirrored", a)
		}
	}
}

// P6.2, P6.6: the errors that are stated, and the greatest argument of Atan2.
func TestConstants(t *testing.T) {
	if trig.TrigErr != 1 || trig.AtanErr != 2 || trig.MaxAtan != 4294967296 {
		t.Errorf("constants %d, %d, %d", trig.TrigErr, trig.AtanErr, trig.MaxAtan)
	}
}
