package trig_test

import (
	"cmp"
	"math"
	exact "math/big"
	"slices"
	"testing"

	"spyglass/api"
	"spyglass/trig"
)

const edge = trig.MaxAtan

// direction is a direction in the plane.
type direction struct{ x, y int64 }

// directions returns directions of every sort, in all quarters: small ones, at the limits, next to the axes and the diagonals, and some without structure.
func directions() []direction {
	sizes := []int64{0, 1, 2, 3, 5, 7, 1000, 99991, 1 << 20, 1<<31 - 1, 1 << 31, edge - 1, edge}
	var list []direction
	for _, x := range sizes {
		for _, y := range sizes {
			list = append(list, direction{x, y})
		}
	}
	for i := range uint64(200) {
		list = append(list, direction{chance(i, edge+1), chance(i+500, edge+1)}, direction{chance(i, 5000), chance(i+700, 100)}, direction{edge - chance(i, 9), chance(i, 9)}, direction{edge - chance(i, 9), edge - chance(i+3, 9)})
	}
	for _, d := range slices.Clone(list) {
		list = append(list, direction{-d.x, d.y}, direction{d.x, -d.y}, direction{-d.x, -d.y})
	}
	return slices.DeleteFunc(list, func(d direction) bool { return d == direction{} })
}

// P6.5: angles that follow from the rule at once or were computed apart from the program.
func TestAtan2(t *testing.T) {
	for i, c := range []struct {
		y, x int64
		a    api.Arc
	}{
		{0, 1, 0}, {1, 1, turn / 8}, {1, 0, turn / 4}, {1, -1, 3 * turn / 8}, {0, -1, turn / 2}, {-1, -1, 5 * turn / 8}, {-1, 0, 3 * turn / 4}, {-1, 1, 7 * turn / 8}, {-5, 5, 7 * turn / 8},
		{0, edge, 0}, {edge, edge, turn / 8}, {edge, 0, turn / 4}, {edge, -edge, 3 * turn / 8}, {0, -edge, turn / 2}, {-edge, -edge, 5 * turn / 8}, {-edge, 0, 3 * turn / 4}, {-edge, edge, 7 * turn / 8},
		// Sin(1) is 2 and Sin(2) is 3, beside a Cos of 2^30: the angle is 1 from 8/2^32 on and 2 from 12/2^32 on.
		{1, edge, 0}, {7, edge, 0}, {8, edge, 1}, {11, edge, 1}, {12, edge, 2}, {-7, edge, 0}, {-8, edge, turn - 1}, {7, -edge, turn / 2}, {8, -edge, turn/2 - 1}, {-8, -edge, turn/2 + 1},
		{edge, 7, turn / 4}, {edge, 8, turn/4 - 1}, {edge, -8, turn/4 + 1}, {-edge, 8, 3*turn/4 + 1}, {-edge, -8, 3*turn/4 - 1}, {-edge, -7, 3 * turn / 4},
		{3, 4, 439875012}, {4, 3, turn/4 - 439875012},
	} {
		if a, err := trig.Atan2(c.y, c.x); a != c.a || err != api.OK {
			t.Errorf("case %d: %d, %d", i, a, err)
		}
	}
}

// P6.5: numbers out of range are refused first, then the direction without length.
func TestAtan2Errors(t *testing.T) {
	for i, c := range []struct {
		y, x int64
		err  api.Errno
	}{
		{0, 0, api.ErrNone}, {edge + 1, 0, api.ErrRange}, {0, edge + 1, api.ErrRange}, {-edge - 1, 0, api.ErrRange}, {0, -edge - 1, api.ErrRange},
		{edge + 1, 1, api.ErrRange}, {1, -edge - 1, api.ErrRange}, {least, least, api.ErrRange}, {least, 0, api.ErrRange}, {0, least, api.ErrRange}, {most, most, api.ErrRange}, {most, 0, api.ErrRange}, {0, most, api.ErrRange},
	} {
		if a, err := trig.Atan2(c.y, c.x); a != 0 || err != c.err {
			t.Errorf("case %d: %d, %d", i, a, err)
		}
	}
}

// small reports whether Sin(a) * u <= Cos(a) * v.
func small(a api.Arc, v, u int64) bool {
	left := new(exact.Int).Mul(exact.NewInt(int64(trig.Sin(a))), exact.NewInt(u))
	return left.Cmp(new(exact.Int).Mul(exact.NewInt(int64(trig.Cos(a))), exact.NewInt(v))) <= 0
}

// greatest reports whether a is A(v, u) of P6.5.
func greatest(a api.Arc, v, u int64) bool {
	return 0 <= a && a <= turn/8 && small(a, v, u) && (a == turn/8 || !small(a+1, v, u))
}

// P6.5: the angle is the greatest one of the rule, mirrored into the quarter of the direction.
func TestAtan2ByRule(t *testing.T) {
	for _, d := range directions() {
		b, err := trig.Atan2(d.y, d.x)
		if err != api.OK || b < 0 || b >= turn {
			t.Fatalf("%v: %d, %d", d, b, err)
		}
		u, v := max(d.x, -d.x), max(d.y, -d.y)
		if d.y < 0 {
			b = (turn - b) % turn
		}
		if d.x < 0 {
			b = turn/2 - b
		}
		if v <= u && !greatest(b, v, u) || v > u && !greatest(turn/4-b, u, v) {
			t.Errorf("%v: %d", d, b)
		}
	}
}

// P6.6: the angle differs from the real one by less than AtanErr.
func TestAtan2Deviation(t *testing.T) {
	for _, d := range directions() {
		a, _ := trig.Atan2(d.y, d.x)
		want := math.Atan2(float64(d.y), float64(d.x)) / (2 * math.Pi) * turn
		if gap := math.Abs(math.Remainder(float64(a)-want, turn)); gap >= trig.AtanErr {
			t.Errorf("%v: %d is off by %f", d, a, gap)
		}
	}
}

// P6.6: the length of the direction does not count.
func TestAtan2OfMultiples(t *testing.T) {
	for _, d := range directions() {
		want, _ := trig.Atan2(d.y, d.x)
		size := max(d.x, -d.x, d.y, -d.y)
		for _, k := range []int64{2, 3, 10, 4097, edge / size} {
			if k*size > edge {
				continue
			}
			if a, err := trig.Atan2(k*d.y, k*d.x); a != want || err != api.OK {
				t.Errorf("%d times %v: %d, not %d", k, d, a, want)
			}
		}
	}
}

// turned compares two directions by their angles from the first axis.
func turned(a, b direction) int {
	if c := cmp.Compare(part(a), part(b)); c != 0 {
		return c
	}
	left := new(exact.Int).Mul(exact.NewInt(a.y), exact.NewInt(b.x))
	return left.Cmp(new(exact.Int).Mul(exact.NewInt(b.y), exact.NewInt(a.x)))
}

// part returns 0 for the first half of a turn and 1 for the second one.
func part(d direction) int {
	if d.y > 0 || d.y == 0 && d.x > 0 {
		return 0
	}
	return 1
}

// P6.6: the angle does not decrease while the direction turns, until it is so near to a whole turn that it is 0.
func TestAtan2Rises(t *testing.T) {
	list := directions()
	for i := range int64(3000) {
		// Directions that follow each other closely: beside the axes, beside the diagonals and elsewhere.
		list = append(list, direction{edge, i}, direction{edge, -i}, direction{edge - i, edge}, direction{-i, edge}, direction{edge / 2, edge/3 + i}, direction{i + 1, 777}, direction{-edge + i, -edge})
	}
	slices.SortFunc(list, turned)
	before, over := api.Arc(0), false
	for _, d := range list {
		a, err := trig.Atan2(d.y, d.x)
		over = over || a == 0 && part(d) == 1
		if err != api.OK || over && a != 0 || !over && a < before {
			t.Fatalf("%v: %d after %d", d, a, before)
		}
		before = a
	}
	if !over {
		t.Error("no direction is so near to a whole turn that its angle is 0")
	}
}
