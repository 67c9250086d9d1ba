package horizon_test

import (
	"math/big"
	"testing"

	"spyglass/api"
	"spyglass/horizon"
	"spyglass/sphere"
	"spyglass/trig"
)

// P10.4: poses that follow from the rule at once.
func TestAim(t *testing.T) {
	const slope, gentle = 439875012, 316933405 // the angles with the tangents 3/4 and 1/2
	equator, middle, north, south := api.Site{}, api.Site{Lat: eighth}, api.Site{Lat: quarter}, api.Site{Lat: -quarter}
	for i, c := range []struct {
		s       api.Site
		turn    api.Arc
		v       vec
		az, alt int64
	}{
		// The zenith, the nadir and the poles: the azimuth is 0 where there is none.
		{middle, 0, at(1, 0, 1), 0, quarter}, {middle, 0, at(-1, 0, -1), 0, -quarter}, {equator, 0, at(7, 0, 0), 0, quarter}, {north, 9, at(0, 0, 2), 0, quarter}, {south, 9, at(0, 0, 2), 0, -quarter}, {middle, 5, at(0, 0, 1), 0, eighth}, {middle, 5, at(0, 0, -1), turn / 2, -eighth}, {api.Site{Lat: -eighth}, 5, at(0, 0, -1), turn / 2, eighth}, {api.Site{Lat: turn / 12}, 5, at(0, 0, rim), 0, turn / 12},
		// The horizon.
		{equator, 0, at(0, 0, 1), 0, 0}, {equator, 0, at(0, 1, 0), quarter, 0}, {equator, 0, at(0, 0, -1), turn / 2, 0}, {equator, 0, at(0, -1, 0), 3 * quarter, 0}, {equator, 0, at(0, 3, 4), slope, 0}, {equator, 0, at(0, 3, -4), turn/2 - slope, 0}, {equator, 0, at(0, -3, -4), turn/2 + slope, 0}, {equator, 0, at(0, -3, 4), turn - slope, 0}, {south, 0, at(1, 0, 0), 0, 0}, {south, 0, at(0, 1, 0), quarter, 0}, {north, 0, at(1, 0, 0), turn / 2, 0}, {north, quarter, at(1, 0, 0), 3 * quarter, 0},
		// Altitudes with the tangents 3/4 and 4/3, above and below the horizon.
		{equator, 0, at(3, 0, 4), 0, slope}, {equator, 0, at(-3, 0, 4), 0, -slope}, {equator, 0, at(4, 3, 0), quarter, quarter - slope}, {equator, 0, at(-4, -3, 0), 3 * quarter, slope - quarter}, {equator, 0, at(-4, 0, -3), turn / 2, slope - quarter},
		// The sky turns to the west.
		{equator, quarter, at(0, 1, 0), 0, quarter}, {equator, turn / 2, at(0, 1, 0), 3 * quarter, 0}, {equator, eighth, at(1, 0, 0), 3 * quarter, eighth}, {equator, -eighth, at(1, 0, 0), quarter, eighth}, {api.Site{Lon: quarter}, 0, at(0, 1, 0), 0, quarter}, {api.Site{Lon: 7 * eighth}, quarter, at(0, 5, 0), quarter, eighth}, {api.Site{Lon: turn - 1}, turn + 1, at(0, 1, 0), quarter, 0},
		// Angles of any size; the greatest one is an arc before a whole turn, and the sine of an arc is nearly 2.
		{equator, least, at(0, 1, 0), quarter, 0}, {equator, most, at(0, 1, 0), quarter, -1}, {equator, most, at(0, -1, 0), 3 * quarter, 1}, {api.Site{Lon: 1}, most, at(0, 1, 0), quarter, 0}, {equator, top, at(1, 0, 0), 0, quarter},
		// Quotients of 3/2 and 5/2 are rounded to 2 and 3, away from 0: of out, east, north and up. Sin(1) is 2, and Sin(3) is 5.
		{north, 1, at(0, 3, 4), quarter + 1, quarter - slope}, {north, 1, at(0, -3, 4), 3*quarter + 1, quarter - slope}, {north, 1, at(3, 0, 4), turn/2 + 1, quarter - slope}, {north, 1, at(-3, 0, 4), 1, quarter - slope}, {api.Site{Lat: 1}, 0, at(3, 4, 0), quarter + 1, slope}, {api.Site{Lat: 1}, 0, at(-3, -4, 0), 3*quarter + 1, -slope}, {api.Site{Lat: 3}, 0, at(0, 2, 1), quarter - gentle, 1}, {api.Site{Lat: 3}, 0, at(0, 2, -1), quarter + gentle, -1},
	} {
		if p, e := horizon.Aim(c.s, c.turn, c.v); p != (api.Pose{Az: c.az, Alt: c.alt}) || e != api.OK {
			t.Errorf("case %d: Aim(%v, %d, %v) is %v, %d, not %d, %d", i, c.s, c.turn, c.v, p, e, c.az, c.alt)
		}
	}
}

// P10.4: sites and vectors that are not valid; the site is checked first.
func TestAimErrors(t *testing.T) {
	for _, s := range faultySites() {
		for _, v := range []vec{at(1, 0, 0), {}, at(most, 0, 0)} {
			if p, e := horizon.Aim(s, 5, v); p != (api.Pose{}) || e != api.ErrRange {
				t.Errorf("Aim(%v, 5, %v) is %v, %d", s, v, p, e)
			}
		}
	}
	for v, want := range faults() {
		if p, e := horizon.Aim(api.Site{Lat: 3, Lon: 4}, 5, v); p != (api.Pose{}) || e != want {
			t.Errorf("Aim of %v is %v, %d, not %d", v, p, e, want)
		}
	}
}

// sum returns a*b + c*d, divided by a unit and rounded.
func sum(a, b, c, d, unit int64) int64 {
	n := times(long(a), long(b))
	return nearest(n.Add(n, times(long(c), long(d))), long(unit))
}

// aimed returns the pose by P10.4, in numbers of any length.
func aimed(s api.Site, angle api.Arc, v vec) api.Pose {
	local := api.Arc(rest(int64(angle), turn)) + s.Lon
	g := sphere.Grow(v)
	x, y, z := g.X, g.Y, g.Z
	c, d, p, q := int64(trig.Cos(local)), int64(trig.Sin(local)), int64(trig.Cos(s.Lat)), int64(trig.Sin(s.Lat))
	out, east := sum(x, c, y, d, 1<<20), sum(y, c, -x, d, 1<<20)
	up, north := sum(1024*z, q, out, p, 1<<30), sum(1024*z, p, -out, q, 1<<30)
	square := times(long(north), long(north))
	flat := new(big.Int).Sqrt(square.Add(square, times(long(east), long(east)))).Int64()
	var pose api.Pose
	if east != 0 || north != 0 {
		az, _ := trig.Atan2(east, north)
		pose.Az = int64(az)
	}
	alt, _ := trig.Atan2(up, flat)
	pose.Alt = int64(alt)
	if alt > turn/2 {
		pose.Alt -= turn
	}
	return pose
}

// moment is a direction at a site, at a sidereal angle.
type moment struct {
	s     api.Site
	angle api.Arc
	v     vec
}

// moments returns moments of every sort: all sites and directions, and some without structure, also with directions next to the zenith and the nadir.
func moments() []moment {
	var list []moment
	for _, s := range sites() {
		for _, angle := range spans() {
			for _, v := range directions() {
				list = append(list, moment{s, angle.Lo, v})
			}
		}
	}
	for i := range uint64(5000) {
		s, angle := api.Site{Lat: api.Arc(around(i, quarter)), Lon: api.Arc(chance(i+3, turn))}, api.Arc(chance(i+5, turn))
		zenith, _ := sphere.Of(api.Arc(rest(int64(angle+s.Lon), turn)), s.Lat)
		near := at(zenith.X+around(i, 5), zenith.Y+around(i+7, 5), zenith.Z+around(i+9, 5))
		if sphere.Check(near) == api.OK {
			list = append(list, moment{s, angle, near}, moment{s, angle, at(-near.X, -near.Y, -near.Z)})
		}
		list = append(list, moment{s, angle, drawn(i+77, rim)}, moment{s, angle - turn*api.Arc(i), drawn(i+99, rim/2+1)})
	}
	return list
}

// P10.4: the pose is that of the rule, within its limits.
func TestAimByRule(t *testing.T) {
	for _, m := range moments() {
		p, e := horizon.Aim(m.s, m.angle, m.v)
		if p != aimed(m.s, m.angle, m.v) || e != api.OK {
			t.Fatalf("Aim(%v, %d, %v) is %v, %d, not %v", m.s, m.angle, m.v, p, e, aimed(m.s, m.angle, m.v))
		}
		if p.Az < 0 || p.Az >= turn || p.Alt < -quarter || p.Alt > quarter {
			t.Fatalf("Aim(%v, %d, %v) is %v", m.s, m.angle, m.v, p)
		}
	}
}

// P10.4: whole turns of the sidereal angle do not count, up to the limits of the machine.
func TestAimTurns(t *testing.T) {
	for _, m := range moments()[:3000] {
		first := api.Arc(rest(int64(m.angle), turn))
		want, _ := horizon.Aim(m.s, first, m.v)
		for _, angle := range []api.Arc{first - turn, first + 5*turn, first + least, first + (most - turn + 1)} {
			if p, e := horizon.Aim(m.s, angle, m.v); p != want || e != api.OK {
				t.Fatalf("Aim(%v, %d, %v) is %v, %d, not %v", m.s, angle, m.v, p, e, want)
			}
		}
	}
}

// P10.5: the pose points nearly to where the direction really stands.
func TestAimError(t *testing.T) {
	for _, m := range moments() {
		p, _ := horizon.Aim(m.s, m.angle, m.v)
		local := float64(rest(int64(m.angle), turn) + int64(m.s.Lon))
		if gap := between(toward(p), seen(m.s.Lat, local, m.v)); gap >= 24 {
			t.Fatalf("Aim(%v, %d, %v) is %v, off by %f", m.s, m.angle, m.v, p, gap)
		}
	}
}
