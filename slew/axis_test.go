package slew_test

import (
	"testing"

	"spyglass/api"
	"spyglass/num"
	"spyglass/slew"
)

// P14.1: axes at the limits are valid.
func TestValidAxes(t *testing.T) {
	for _, a := range append(axes(300),
		axis{Min: -limit, Max: limit, Speed: slow, Accel: slow}, axis{Min: -limit, Max: -limit, Speed: fast, Accel: fast}, axis{Min: limit, Max: limit, Speed: fast, Accel: fast / 64},
		axis{Speed: slow, Accel: 1 << 18}, axis{Speed: slow - 1 + 64, Accel: 1<<18 + 1}, axis{Speed: 64 << 19, Accel: 1 << 19},
	) {
		if e := slew.CheckAxis(a); e != api.OK {
			t.Errorf("CheckAxis(%v): got %d", a, e)
		}
	}
}

// P14.1: each error of an axis, and their order.
func TestAxisErrors(t *testing.T) {
	testFaults(t, plain, axisFaults(), slew.CheckAxis)
	if e := slew.CheckAxis(axis{}); e != api.ErrRange {
		t.Errorf("got %d", e)
	}
	if e := slew.CheckAxis(axis{Speed: 64<<19 + 1, Accel: 1 << 19}); e != api.ErrRange {
		t.Errorf("got %d", e)
	}
}

// P14.1: each error of a mount, and their order.
func TestMountErrors(t *testing.T) {
	testFaults(t, telescope, mountFaults(), slew.CheckMount)
	for _, p := range []pose{to(-turn, -turn/8), to(turn, turn/4), to(-turn, turn/4), to(turn, -turn/8)} {
		m := telescope()
		m.Park = p
		if e := slew.CheckMount(m); e != api.OK {
			t.Errorf("CheckMount(%v): got %d", m, e)
		}
	}
	if e := slew.CheckMount(mount{}); e != api.ErrRange {
		t.Errorf("got %d", e)
	}
}

// P14.1: positions are within the limits from the least to the greatest one, also those of an axis that is not valid.
func TestIn(t *testing.T) {
	for _, c := range []struct {
		min, max, p int64
		want        bool
	}{
		{-5, 7, -6, false}, {-5, 7, -5, true}, {-5, 7, 0, true}, {-5, 7, 7, true}, {-5, 7, 8, false}, {3, 3, 3, true}, {3, 3, 2, false}, {3, 3, 4, false},
		{4, 3, 3, false}, {4, 3, 4, false}, {least, most, least, true}, {least, most, most, true}, {-limit, limit, limit + 1, false}, {0, 0, least, false}, {0, 0, most, false},
	} {
		for _, a := range []axis{{Min: c.min, Max: c.max}, {Min: c.min, Max: c.max, Speed: slow, Accel: slow}} {
			if got := slew.In(a, c.p); got != c.want {
				t.Errorf("In(%v, %d): got %v", a, c.p, got)
			}
		}
	}
}

// P14.2: positions for angles, among them the smaller one of two, and the only one that the limits leave.
func TestKnownTargets(t *testing.T) {
	for _, c := range []struct {
		min, max, from int64
		angle          api.Arc
		want           int64
	}{
		{-turn, turn, 0, 0, 0}, {-turn, turn, 5, turn, 0}, {-turn, turn, -5, -turn, 0}, {-turn, turn, turn / 3, turn / 3, turn / 3},
		{-turn, turn, 0, turn/2 - 1, turn/2 - 1}, {-turn, turn, 0, turn / 2, -turn / 2}, {-turn, turn, 0, turn/2 + 1, -turn/2 + 1},
		{-turn, turn, 7, turn/2 + 7, -turn/2 + 7}, {-turn, turn, 7, turn/2 + 6, turn/2 + 6}, {-turn, turn, -turn + 3, 0, -turn}, {-turn, turn, -turn / 2, 0, -turn}, {-turn, turn, turn / 2, 0, 0},
		{-turn / 2, turn, 0, turn / 2, -turn / 2}, {-turn/2 + 1, turn, 0, turn / 2, turn / 2}, {-turn/2 + 1, turn / 2, 0, turn / 2, turn / 2},
		{0, turn - 1, turn - 1, 0, 0}, {0, turn - 1, 0, -1, turn - 1}, {0, turn, turn - 1, 0, turn}, {0, turn, 1, -1, turn - 1},
		{5, 5, 5, 5, 5}, {5, 5, 5, 5 - 3*turn, 5}, {3 * turn, 4*turn - 1, 3 * turn, -1, 4*turn - 1}, {3 * turn, 4 * turn, 4*turn - 1, 1, 3*turn + 1},
		{-limit, limit, limit, 1, limit - turn + 1}, {-limit, limit, -limit, turn - 1, -limit + turn - 1}, {-limit, limit, limit, turn - 1, limit - 1}, {-limit, limit, -limit, 1, -limit + 1},
		{-turn, turn, 0, most, -1}, {-turn, turn, 0, least, 0}, {-turn, turn, turn, least, turn}, {-limit, limit, limit, most, limit - 1}, {-limit, limit, -limit, least + 1, -limit + 1},
	} {
		a := plain()
		a.Min, a.Max = c.min, c.max
		if p, e := slew.Target(a, c.from, c.angle); p != c.want || e != api.OK {
			t.Errorf("%v: got %d, %d", c, p, e)
		}
	}
}

// nearest returns the target of all positions within the limits that the chapter permits.
func nearest(a axis, from int64, angle api.Arc) (best int64, found bool) {
	for k := int64(-6); k <= 6; k++ {
		p := num.Mod(int64(angle), turn) + k*turn
		if !slew.In(a, p) {
			continue
		}
		if far, near := max(p-from, from-p), max(best-from, from-best); !found || far < near || far == near && p < best {
			best, found = p, true
		}
	}
	return best, found
}

// P14.2: the target is the nearest of all congruent positions, from every sort of position to every sort of angle.
func TestTargets(t *testing.T) {
	missed := 0
	for i, a := range axes(400) {
		draw := draws(uint64(i) << 12)
		for range 40 {
			from := draw(a.Min, a.Max)
			switch draw(0, 4) {
			case 0:
				from = a.Min
			case 1:
				from = a.Max
			}
			for _, angle := range []int64{draw(0, turn-1), draw(least/2, most/2), from, from + turn/2, from + turn/2 - 1, from + turn/2 + 1, from - 9*turn, a.Min, a.Min - 1, a.Max, a.Max + 1, most, least} {
				want, found := nearest(a, from, api.Arc(angle))
				p, e := slew.Target(a, from, api.Arc(angle))
				if found && (p != want || e != api.OK) || !found && (p != 0 || e != api.ErrRange) {
					t.Fatalf("Target(%v, %d, %d): got %d, %d, want %d, %v", a, from, angle, p, e, want, found)
				}
				if !found {
					missed++
				}
			}
		}
	}
	if missed < 1000 {
		t.Errorf("only %d angles cannot be reached", missed)
	}
}

// P14.2: each error of Target, and their order.
func TestTargetErrors(t *testing.T) {
	type call struct {
		a     axis
		from  int64
		angle api.Arc
	}
	valid := func() call { return call{axis{Min: -3, Max: 5, Speed: slow, Accel: slow}, -3, turn + 5} }
	faults := append(within(0, axisFaults(), func(c *call) *axis { return &c.a }),
		fault[call]{3, api.ErrRange, func(c *call) { c.from = -4 }},
		fault[call]{3, api.ErrRange, func(c *call) { c.from = 6 }},
		fault[call]{3, api.ErrRange, func(c *call) { c.from = turn }},
		fault[call]{3, api.ErrRange, func(c *call) { c.from = least }},
		fault[call]{3, api.ErrRange, func(c *call) { c.from = most }},
		fault[call]{4, api.ErrRange, func(c *call) { c.angle = 6 }},
		fault[call]{4, api.ErrRange, func(c *call) { c.angle = -4 }},
		fault[call]{4, api.ErrRange, func(c *call) { c.angle = turn / 2 }},
		fault[call]{4, api.ErrRange, func(c *call) { c.angle = turn + 6 }})
	testFaults(t, valid, faults, func(c call) api.Errno {
		p, e := slew.Target(c.a, c.from, c.angle)
		if e != api.OK && p != 0 {
			t.Errorf("%v: got %d", c, p)
		}
		return e
	})
}
