package slew_test

import (
	"testing"

	"spyglass/api"
	"spyglass/horizon"
	"spyglass/slew"
)

// P14.6: aims at known angles: at the equator, on the meridian, what rises in the east goes through the zenith.
func TestKnownAims(t *testing.T) {
	n := evening()
	n.Site, n.Slots, n.Cloud = api.Site{}, 2, []int{0, 0}
	// In a slot, the sky turns by 180 million arcs.
	n.Spin, n.Begin, n.Long = api.Rate{At: 7, Arcs: api.Frac{Num: 100, Den: 1}}, 7, 1_800_000
	east := at(0, 1, 0)
	p, e := slew.Aim(n, east, 0)
	if p != to(turn/4, 0) || e != api.OK {
		t.Errorf("got %v, %d", p, e)
	}
	for k := range 3 {
		turned := 180_000_000 * int64(k)
		p, e := slew.Aim(n, east, k)
		if max(p.Alt-turned, turned-p.Alt) > 2*horizon.AimErr || max(p.Az-turn/4, turn/4-p.Az) > 2*horizon.AimErr || e != api.OK {
			t.Errorf("slot %d: got %v, %d", k, p, e)
		}
	}
	// The pole stays where it is.
	n.Site.Lat = turn / 8
	for k := range 3 {
		if p, e := slew.Aim(n, at(0, 0, 9), k); p != to(0, turn/8) || e != api.OK {
			t.Errorf("slot %d: got %v, %d", k, p, e)
		}
	}
}

// P14.6: aims are those of chapter 10 at the beginning of the slot, also after the last one.
func TestAim(t *testing.T) {
	for i := range uint64(1000) {
		n, v := drawnNight(draws(i << 10))
		for _, k := range []int{0, 1, n.Slots / 2, n.Slots - 1, n.Slots} {
			want, _ := aimAt(n, v, k)
			if p, e := slew.Aim(n, v, k); p != want || e != api.OK {
				t.Fatalf("Aim(%v, %v, %d): got %v, %d, want %v", n, v, k, p, e, want)
			}
		}
	}
}

// P14.6: each error of Aim, and their order.
func TestAimErrors(t *testing.T) {
	type call struct {
		n night
		v vec
		k int
	}
	faults := append(within(0, nightFaults(), func(c *call) *night { return &c.n }),
		fault[call]{6, api.ErrRange, func(c *call) { c.k = -1 }},
		fault[call]{6, api.ErrRange, func(c *call) { c.k = 7 }},
		fault[call]{6, api.ErrRange, func(c *call) { c.k = least }},
		fault[call]{6, api.ErrRange, func(c *call) { c.k = most }},
		fault[call]{7, api.ErrNone, func(c *call) { c.v = vec{} }},
		fault[call]{7, api.ErrRange, func(c *call) { c.v.Y = rim + 1 }},
		fault[call]{7, api.ErrRange, func(c *call) { c.v.Z = least }})
	for _, k := range []int{0, 3, 6} {
		testFaults(t, func() call { return call{evening(), at(1, 2, 3), k} }, faults, func(c call) api.Errno {
			p, e := slew.Aim(c.n, c.v, c.k)
			if e != api.OK && p != (pose{}) {
				t.Errorf("%v: got %v", c, p)
			}
			return e
		})
	}
}

// followed returns what Track shall return for valid arguments with 0 <= from <= to, step by step as the chapter says.
func followed(m mount, n night, at pose, v vec, from, to int) (pose, api.Errno) {
	for k := from + 1; k <= to; k++ {
		aim, e := slew.Aim(n, v, k)
		if e != api.OK {
			return pose{}, e
		}
		next, _, e := slew.To(m, at, aim)
		if e != api.OK {
			return pose{}, e
		}
		if d, h := next.Az-at.Az, next.Alt-at.Alt; max(d, -d) > turn/4 || max(h, -h) > turn/4 {
			return pose{}, api.ErrRange
		}
		at = next
	}
	return at, api.OK
}

// P14.6: Track follows a direction slot by slot, as the chapter says.
func TestTrack(t *testing.T) {
	lost, followedFar, turned := 0, 0, 0
	for i := range uint64(4000) {
		draw := draws(i << 10)
		n, v := drawnNight(draw)
		m, p := drawnMount(draw)
		from := int(draw(0, int64(n.Slots)))
		until := int(draw(int64(from), int64(n.Slots)))
		if i%4 > 0 {
			m = wide()
			m.Az.Min, m.Az.Max = -draw(turn/2, 2*turn), draw(turn/2, 2*turn)
			aim, _ := slew.Aim(n, v, from)
			az, _ := slew.Target(m.Az, draw(m.Az.Min, m.Az.Max), api.Arc(aim.Az))
			p = to(az, aim.Alt)
		}
		want, wantErr := followed(m, n, p, v, from, until)
		got, e := slew.Track(m, n, p, v, from, until)
		if got != want || e != wantErr {
			t.Fatalf("Track(%v, %v, %v, %v, %d, %d): got %v, %d, want %v, %d", m, n, p, v, from, until, got, e, want, wantErr)
		}
		switch {
		case e != api.OK:
			lost++
		case until > from+5:
			followedFar++
			if got.Az < 0 || got.Az >= turn {
				turned++
			}
		}
	}
	if lost < 300 || followedFar < 1000 || turned < 100 {
		t.Errorf("%d are lost, %d are followed over more than 5 slots, %d of them to other turns", lost, followedFar, turned)
	}
}

// P14.6: without a slot to follow, the pose stays what it is, even for a vector that is no direction.
func TestTrackNothing(t *testing.T) {
	for k := range 7 {
		for _, p := range []pose{{}, to(-turn, turn/4), to(77, -9)} {
			for _, v := range []vec{at(1, 2, 3), {}, at(least, most, 0)} {
				if got, e := slew.Track(telescope(), evening(), p, v, k, k); got != p || e != api.OK {
					t.Errorf("got %v, %d, not %v", got, e, p)
				}
			}
		}
	}
}

// P14.6: an axis may move by Jump in a slot, in both directions, and not farther.
func TestJumps(t *testing.T) {
	n, v := evening(), at(1, 2, 3)
	for k := range 6 {
		aim, _ := slew.Aim(n, v, k+1)
		for _, c := range []struct {
			az, alt int64
			want    api.Errno
		}{
			{slew.Jump, 0, api.OK}, {-slew.Jump, 0, api.OK}, {0, slew.Jump, api.OK}, {0, -slew.Jump, api.OK}, {slew.Jump, -slew.Jump, api.OK},
			{slew.Jump + 1, 0, api.ErrRange}, {-slew.Jump - 1, 0, api.ErrRange}, {0, slew.Jump + 1, api.ErrRange}, {0, -slew.Jump - 1, api.ErrRange},
			{turn / 2, 0, api.ErrRange}, {0, turn/2 - 1, api.ErrRange}, {turn, -turn, api.OK},
		} {
			want := to(aim.Az+turn, aim.Alt-turn)
			p := to(want.Az+c.az, want.Alt+c.alt)
			if c.want != api.OK {
				want = pose{}
			} else if c.az == turn {
				want = p
			}
			if got, e := slew.Track(wide(), n, p, v, k, k+1); got != want || e != c.want {
				t.Errorf("%v: got %v, %d, not %v", c, got, e, want)
			}
		}
	}
}

// P14.6: an axis stops at its limits, and may get exactly there.
func TestLimitsOfCables(t *testing.T) {
	n, v := evening(), at(5, 2, 3)
	start, _ := slew.Aim(n, v, 0)
	until, _ := slew.Aim(n, v, 6)
	if until.Az <= start.Az || until.Alt <= start.Alt {
		t.Fatalf("from %v to %v", start, until)
	}
	for slack, want := range map[int64]api.Errno{-1: api.ErrRange, 0: api.OK, 1: api.OK} {
		for _, m := range []mount{
			{Az: axis{Min: start.Az, Max: until.Az + slack, Speed: slow, Accel: slow}, Alt: wide().Alt, Park: start},
			{Az: wide().Az, Alt: axis{Min: start.Alt, Max: until.Alt + slack, Speed: slow, Accel: slow}, Park: start},
		} {
			got, e := slew.Track(m, n, start, v, 0, 6)
			if e != want || e == api.OK && got != until || e != api.OK && got != (pose{}) {
				t.Errorf("%v: got %v, %d", m, got, e)
			}
			if _, e := slew.Track(m, n, start, v, 0, 5); e != api.OK {
				t.Errorf("%v: got %d", m, e)
			}
		}
	}
}

// P14.6: each error of Track, and their order.
func TestTrackErrors(t *testing.T) {
	type call struct {
		m        mount
		n        night
		at       pose
		v        vec
		from, to int
	}
	valid := func() call {
		aim, _ := slew.Aim(evening(), at(5, 2, 3), 1)
		return call{telescope(), evening(), aim, at(5, 2, 3), 1, 6}
	}
	faults := append(within(0, mountFaults(), func(c *call) *mount { return &c.m }), within(7, nightFaults(), func(c *call) *night { return &c.n })...)
	faults = append(faults,
		fault[call]{13, api.ErrRange, func(c *call) { c.at.Az = -turn - 1 }},
		fault[call]{13, api.ErrRange, func(c *call) { c.at.Az = turn + 1 }},
		fault[call]{13, api.ErrRange, func(c *call) { c.at.Alt = -turn/8 - 1 }},
		fault[call]{13, api.ErrRange, func(c *call) { c.at.Alt = turn/4 + 1 }},
		fault[call]{13, api.ErrRange, func(c *call) { c.from = -1 }},
		fault[call]{13, api.ErrRange, func(c *call) { c.from = 6; c.to = 5 }},
		fault[call]{13, api.ErrRange, func(c *call) { c.to = 7 }},
		fault[call]{13, api.ErrRange, func(c *call) { c.to = most }},
		fault[call]{13, api.ErrRange, func(c *call) { c.from = least }},
		fault[call]{13, api.ErrRange, func(c *call) { c.from, c.to = 7, 7 }},
		fault[call]{13, api.ErrRange, func(c *call) { c.from, c.to = -1, -1 }},
		fault[call]{14, api.ErrNone, func(c *call) { c.v = vec{} }},
		fault[call]{14, api.ErrRange, func(c *call) { c.v.Y = -rim - 1 }},
		fault[call]{14, api.ErrRange, func(c *call) { c.v = at(1, 2, -40) }})
	testFaults(t, valid, faults, func(c call) api.Errno {
		p, e := slew.Track(c.m, c.n, c.at, c.v, c.from, c.to)
		if e != api.OK && p != (pose{}) {
			t.Errorf("%v: got %v", c, p)
		}
		return e
	})
}
