package slew_test

import (
	"testing"

	"spyglass/api"
	"spyglass/prop"
	"spyglass/slew"
)

// P14.5: poses for aims, with the steps of the axis that takes longer.
func TestKnownPoses(t *testing.T) {
	m := mount{Az: axis{Min: -turn, Max: turn, Speed: slow, Accel: slow}, Alt: axis{Max: turn / 4, Speed: 2 * slow, Accel: slow}}
	for _, c := range []struct {
		from, aim, want pose
		steps           int
	}{
		{to(0, 0), to(0, 0), to(0, 0), 0},
		{to(turn, 9), to(0, 9), to(turn, 9), 0},
		{to(turn, 9), to(0, 9+3*turn), to(turn, 9), 0},
		{to(0, 0), to(3*slow, 0), to(3*slow, 0), 4},
		{to(0, 0), to(-3*slow, 0), to(-3*slow, 0), 4},
		{to(0, 0), to(turn-3*slow, 0), to(-3*slow, 0), 4},
		{to(0, 0), to(0, 6*slow), to(0, 6*slow), 5},
		{to(0, 6*slow), to(slow, 0), to(slow, 0), 5},
		{to(0, 0), to(5*slow, 6*slow), to(5*slow, 6*slow), 6},
		{to(0, 0), to(4*slow, 6*slow), to(4*slow, 6*slow), 5},
		{to(turn/2, 0), to(0, 0), to(0, 0), 129},
		{to(turn/2+1, 0), to(0, 0), to(turn, 0), 129},
		{to(turn-1, 0), to(turn/2-2, 1), to(turn/2-2, 1), 130},
	} {
		if p, n, e := slew.To(m, c.from, c.aim); p != c.want || n != c.steps || e != api.OK {
			t.Errorf("%v: got %v, %d, %d", c, p, n, e)
		}
	}
}

// P14.5: To is made of Target and Steps of both axes.
func TestTo(t *testing.T) {
	reached := 0
	for i := range uint64(4000) {
		draw := draws(i << 10)
		m, from := drawnMount(draw)
		aim := to(draw(0, turn-1), draw(-turn/4, turn/4))
		if i%5 == 0 {
			aim = to(draw(least/2, most/2), draw(least/2, most/2))
		}
		az, azErr := slew.Target(m.Az, from.Az, api.Arc(aim.Az))
		alt, altErr := slew.Target(m.Alt, from.Alt, api.Arc(aim.Alt))
		p, n, e := slew.To(m, from, aim)
		if azErr != api.OK || altErr != api.OK {
			if p != (pose{}) || n != 0 || e != api.ErrRange {
				t.Fatalf("To(%v, %v, %v): got %v, %d, %d", m, from, aim, p, n, e)
			}
			continue
		}
		reached++
		a, _ := slew.Steps(m.Az, from.Az, az)
		b, _ := slew.Steps(m.Alt, from.Alt, alt)
		if p != to(az, alt) || n != max(a, b) || e != api.OK {
			t.Fatalf("To(%v, %v, %v): got %v, %d, %d", m, from, aim, p, n, e)
		}
	}
	if reached < 1000 || reached > 3500 {
		t.Errorf("%d aims are reached", reached)
	}
}

// P14.5: each error of To, and their order.
func TestToErrors(t *testing.T) {
	type call struct {
		m         mount
		from, aim pose
	}
	m := telescope()
	m.Az.Min, m.Az.Max = -3, 5
	valid := func() call { return call{m, to(-3, -turn/8), to(turn+5, turn/4)} }
	faults := append(within(0, mountFaults(), func(c *call) *mount { return &c.m }),
		fault[call]{7, api.ErrRange, func(c *call) { c.from.Az = -4 }},
		fault[call]{7, api.ErrRange, func(c *call) { c.from.Az = most }},
		fault[call]{7, api.ErrRange, func(c *call) { c.aim.Az = 6 }},
		fault[call]{7, api.ErrRange, func(c *call) { c.aim.Az = -4 }},
		fault[call]{8, api.ErrRange, func(c *call) { c.from.Alt = -turn/8 - 1 }},
		fault[call]{8, api.ErrRange, func(c *call) { c.from.Alt = turn/4 + 1 }},
		fault[call]{8, api.ErrRange, func(c *call) { c.from.Alt = least }},
		fault[call]{8, api.ErrRange, func(c *call) { c.aim.Alt = -turn/8 - 1 }},
		fault[call]{8, api.ErrRange, func(c *call) { c.aim.Alt = turn/4 + 1 }},
		fault[call]{8, api.ErrRange, func(c *call) { c.aim.Alt = turn / 2 }})
	testFaults(t, valid, faults, func(c call) api.Errno {
		p, n, e := slew.To(c.m, c.from, c.aim)
		if e != api.OK && (p != pose{} || n != 0) {
			t.Errorf("%v: got %v, %d", c, p, n)
		}
		return e
	})
}

// P14.5: slots that steps of a second take, rounded up.
func TestKnownSlots(t *testing.T) {
	for _, c := range []struct {
		long        api.Tick
		steps, want int
	}{
		{60_000, least, 0}, {60_000, -1, 0}, {60_000, 0, 0}, {60_000, 1, 1}, {60_000, 60, 1}, {60_000, 61, 2}, {60_000, 120, 2}, {60_000, 121, 3},
		{60_001, 60, 1}, {60_001, 120, 2}, {60_001, 121, 3}, {60_999, 61, 2}, {61_000, 61, 1}, {61_001, 61, 1}, {90_500, 181, 2}, {90_499, 181, 3}, {1_800_000, 1800, 1}, {1_800_000, 1801, 2},
		{60_000, 1<<20 - 17, 17476}, {60_000, 1<<20 - 16, 17476}, {60_000, 1<<20 - 15, 17477}, {60_000, 1 << 20, 17477}, {60_000, 1<<20 + 45, 17477}, {60_000, most, 17477},
		{62_500, 1<<20 - 1, 16778}, {64_000, 1<<20 - 1, 16384}, {64_000, 1 << 20, 16384}, {64_000, 1<<20 + 1, 16384}, {64_000, most, 16384},
	} {
		n := evening()
		n.Long = c.long
		if k := slew.Slots(n, c.steps); k != c.want {
			t.Errorf("%v: got %d", c, k)
		}
	}
}

// P14.5: the slots are the fewest that are as long as the steps.
func TestSlots(t *testing.T) {
	for i := range uint64(3000) {
		draw := draws(i << 10)
		n, _ := drawnNight(draw)
		steps := draw(1, []int64{100, 5000, slew.MaxTravel}[i%3])
		k := int64(slew.Slots(n, int(steps)))
		if k*int64(n.Long) < steps*1000 || (k-1)*int64(n.Long) >= steps*1000 {
			t.Fatalf("Slots of %d steps, with slots of %d: got %d", steps, n.Long, k)
		}
	}
}

// P14.5: a night that is not valid has no slots.
func TestSlotsOfNone(t *testing.T) {
	testFaults(t, evening, nightFaults(), func(n night) api.Errno {
		for _, steps := range []int{least, 0, 1, 600, most} {
			if k := slew.Slots(n, steps); (k != 0) != (prop.CheckNight(n) == api.OK && steps > 0) {
				t.Errorf("Slots(%v, %d): got %d", n, steps, k)
			}
		}
		return prop.CheckNight(n)
	})
}
