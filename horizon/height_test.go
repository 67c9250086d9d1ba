package horizon_test

import (
	"testing"

	"spyglass/api"
	"spyglass/bound"
	"spyglass/horizon"
	"spyglass/sphere"
	"spyglass/trig"
)

// Chapter 10: the limits are those of the document.
func TestLimits(t *testing.T) {
	if horizon.MaxWidth != 16 || horizon.AimErr != 24 || horizon.MaxBends != 64 {
		t.Error("a limit is wrong")
	}
}

// P10.1: valid sites up to the limits, and sites beyond each limit.
func TestCheckSite(t *testing.T) {
	for _, s := range append(sites(), api.Site{Lon: turn - 1}, api.Site{Lat: -quarter, Lon: turn - 1}) {
		if e := horizon.CheckSite(s); e != api.OK {
			t.Errorf("CheckSite(%v) is %d", s, e)
		}
	}
	for _, s := range faultySites() {
		if e := horizon.CheckSite(s); e != api.ErrRange {
			t.Errorf("CheckSite(%v) is %d", s, e)
		}
	}
}

// P10.2: bounds that follow from the rule at once. Of an exact angle, SinBound and CosBound are at most 1 wider to both sides than Sin and Cos.
func TestHeight(t *testing.T) {
	const mid = 759250125 // Sin and Cos of an eighth of a turn
	equator, middle := api.Site{}, api.Site{Lat: eighth}
	for i, c := range []struct {
		s    api.Site
		turn arcs
		v    vec
		want fixes
	}{
		// The pole stands as high as the site lies, at all times.
		{middle, exactly(0), at(0, 0, 1), fixes{Lo: mid - 1, Hi: mid + 1}}, {middle, arcs{Lo: -turn, Hi: 3 * turn}, at(0, 0, 7), fixes{Lo: mid - 1, Hi: mid + 1}}, {middle, exactly(5), at(0, 0, -rim), fixes{Lo: -mid - 1, Hi: 1 - mid}}, {api.Site{Lat: -eighth}, exactly(5), at(0, 0, 1), fixes{Lo: -mid - 1, Hi: 1 - mid}}, {api.Site{Lat: quarter}, exactly(5), at(0, 0, 1), fixes{Lo: one - 1, Hi: one}}, {api.Site{Lat: -quarter}, exactly(5), at(0, 0, 1), fixes{Lo: -one, Hi: 1 - one}}, {equator, exactly(5), at(0, 0, 1), fixes{Lo: -1, Hi: 1}},
		// Directions of the celestial equator at the equator and at a pole.
		{equator, exactly(0), at(0, 1, 0), fixes{Lo: -1, Hi: 1}}, {equator, exactly(0), at(1, 0, 0), fixes{Lo: one - 2, Hi: one}}, {equator, exactly(0), at(-1, 0, 0), fixes{Lo: -one, Hi: 2 - one}}, {equator, exactly(quarter), at(0, 3, 0), fixes{Lo: one - 2, Hi: one}}, {equator, exactly(quarter), at(0, -3, 0), fixes{Lo: -one, Hi: 2 - one}}, {api.Site{Lat: quarter}, exactly(0), at(1, 0, 0), fixes{Lo: -1, Hi: 1}},
		// The longitude counts like the sidereal angle.
		{api.Site{Lon: quarter}, exactly(0), at(0, 1, 0), fixes{Lo: one - 2, Hi: one}}, {api.Site{Lon: quarter}, exactly(-7 * turn), at(0, 1, 0), fixes{Lo: one - 2, Hi: one}}, {api.Site{Lon: turn / 2}, exactly(turn / 2), at(-1, 0, 0), fixes{Lo: -one, Hi: 2 - one}},
		// Parts of a turn, from the horizon to the zenith and beyond it.
		{equator, arcs{Hi: quarter}, at(0, 1, 0), fixes{Lo: -1, Hi: one}}, {equator, arcs{Hi: turn / 2}, at(0, 1, 0), fixes{Lo: -1, Hi: one}}, {equator, arcs{Lo: turn / 2, Hi: turn}, at(0, 1, 0), fixes{Lo: -one, Hi: 1}}, {equator, arcs{Hi: turn}, at(1, 0, 0), fixes{Lo: -one, Hi: one}},
		// Sines of 3/5 = 644245094.4 / One: the rule gives (3 * One - 10) / 5 and (3 * One + 4) / 5.
		{equator, exactly(0), at(3, 0, 4), fixes{Lo: 644245092, Hi: 644245096}}, {equator, exactly(0), at(-3, 0, -4), fixes{Lo: -644245096, Hi: -644245092}}, {equator, exactly(0), at(-3, 0, 4), fixes{Lo: -644245096, Hi: -644245092}},
		// The square root of 3 is between whole numbers: (One - 4) and (One + 2) are divided by it.
		{equator, exactly(0), at(1, 1, 1), fixes{Lo: 619925128, Hi: 619925133}},
		// At the zenith the rule gives up to One + 2 for the sine.
		{middle, exactly(0), at(1, 0, 1), fixes{Lo: one - 2, Hi: one}}, {middle, exactly(0), at(-1, 0, -1), fixes{Lo: -one, Hi: 2 - one}},
		// The last sums that are known.
		{equator, exactly(top), at(0, 1, 0), fixes{Lo: -1, Hi: 1}}, {equator, exactly(-top), at(0, 1, 0), fixes{Lo: -1, Hi: 1}}, {api.Site{Lon: quarter}, exactly(top - quarter), at(1, 0, 0), fixes{Lo: one - 2, Hi: one}}, {equator, arcs{Lo: -top, Hi: top}, at(0, 1, 0), fixes{Lo: -one, Hi: one}},
	} {
		if h := horizon.Height(c.s, c.turn, c.v); h != c.want {
			t.Errorf("case %d: Height(%v, %v, %v) is %v, not %v", i, c.s, c.turn, c.v, h, c.want)
		}
	}
}

// P10.2: nothing is known for a site, a bound or a vector that is not valid, or if the sum of the angles is not valid.
func TestHeightUnknown(t *testing.T) {
	x, equator := at(1, 0, 0), api.Site{}
	for _, s := range faultySites() {
		if h := horizon.Height(s, exactly(0), x); h != noFix {
			t.Errorf("at site %v: %v", s, h)
		}
	}
	for _, b := range invalid() {
		for _, s := range []api.Site{equator, {Lon: 5}} {
			if h := horizon.Height(s, b, x); h != noFix {
				t.Errorf("at angle %v: %v", b, h)
			}
		}
	}
	for v := range faults() {
		if h := horizon.Height(equator, exactly(0), v); h != noFix {
			t.Errorf("of %v: %v", v, h)
		}
	}
	if h := horizon.Height(api.Site{Lon: 6}, arcs{Lo: top - 9, Hi: top - 5}, x); h != noFix {
		t.Errorf("beyond the limit: %v", h)
	}
	if h := horizon.Height(api.Site{Lon: 5}, arcs{Lo: top - 9, Hi: top - 5}, x); h.Unknown {
		t.Error("nothing is known at the limit")
	}
}

// ruled returns the height by P10.2, in numbers of any length.
func ruled(s api.Site, angle arcs, v vec) fixes {
	local := arcs{Lo: angle.Lo + s.Lon, Hi: angle.Hi + s.Lon}
	lat := exactly(s.Lat)
	g := sphere.Grow(v)
	x, y, z, unit := long(g.X), long(g.Y), long(g.Z), long(1)
	a, b, c, d := spanOf(trig.SinBound(lat)), spanOf(trig.CosBound(lat)), spanOf(trig.CosBound(local)), spanOf(trig.SinBound(local))
	e := c.by(span{x, x}, unit).plus(d.by(span{y, y}, unit))
	u := a.by(span{z, z}, unit).plus(b.by(e, long(one)))
	square := times(x, x)
	square.Add(square, times(y, y)).Add(square, times(z, z))
	q := u.over(root(times(square, long(1<<40))), long(1<<20))
	return fixes{Lo: max(-one, api.Fix(q.lo.Int64())), Hi: min(one, api.Fix(q.hi.Int64()))}
}

// P10.2: the bounds are those of the rule.
func TestHeightByRule(t *testing.T) {
	for _, s := range sites() {
		for _, angle := range spans() {
			for _, v := range directions() {
				if h, want := horizon.Height(s, angle, v), ruled(s, angle, v); h != want {
					t.Fatalf("Height(%v, %v, %v) is %v, not %v", s, angle, v, h, want)
				}
			}
		}
	}
}

// P10.3: the bound contains the real sine of the altitude for all angles that are admitted, which need not be whole.
func TestHeightInclusion(t *testing.T) {
	for i, s := range sites() {
		for j, angle := range spans() {
			for k, v := range directions() {
				h := horizon.Height(s, angle, v)
				for n := range 8 {
					part := float64(chance(uint64((i*1000+j)*1000+k*8+n), 1<<40)) / (1 << 40)
					if n < 3 {
						part = float64(n) / 2
					}
					// The turns before the lower end are left out, so that the float has the fraction of an arc.
					local := float64(rest(int64(angle.Lo), turn)+int64(s.Lon)) + part*float64(angle.Hi-angle.Lo)
					if sine := seen(s.Lat, local, v)[2] * one; h.Unknown || sine < float64(h.Lo)-1e-5 || sine > float64(h.Hi)+1e-5 {
						t.Fatalf("Height(%v, %v, %v) is %v, without %f", s, angle, v, h, sine)
					}
				}
			}
		}
	}
}

// P10.3: of an exact angle, the bound is narrow.
func TestHeightWidth(t *testing.T) {
	for i := range uint64(20000) {
		s := api.Site{Lat: api.Arc(around(i, quarter)), Lon: api.Arc(chance(i+1, turn))}
		v := drawn(i+5, 1+int64(i*i)%rim)
		switch i % 5 {
		case 0:
			v = at(rim/2+1, rim/2+1, rim/2+1)
		case 1:
			v.Z = 1 - rim/2
		}
		angle := exactly(api.Arc(around(i+2, top-turn)))
		if w, ok := bound.Width(horizon.Height(s, angle, v)); !ok || w > 16 {
			t.Fatalf("Height(%v, %v, %v) has the width %d, %v", s, angle, v, w, ok)
		}
	}
}

// P10.3: a narrower bound of the angle gives a narrower bound of the height.
func TestHeightIsotony(t *testing.T) {
	for i, s := range sites() {
		for j, outer := range append(spans(), noArc) {
			for k, v := range directions() {
				wide := horizon.Height(s, outer, v)
				for _, narrow := range inner(outer, uint64((i*1000+j)*1000+k)) {
					if h := horizon.Height(s, narrow, v); !bound.Inside(h, wide) {
						t.Fatalf("Height(%v, %v, %v) is %v, not inside %v of %v", s, narrow, v, h, wide, outer)
					}
				}
			}
		}
	}
}
