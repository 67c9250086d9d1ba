package window_test

import (
	"math"
	"testing"

	"spyglass/api"
	"spyglass/bound"
	"spyglass/horizon"
	"spyglass/prop"
	"spyglass/scale"
	"spyglass/sphere"
	"spyglass/window"
)

const (
	one   = api.One
	rim   = api.MaxCoord
	turn  = api.Turn
	end   = api.MaxTick
	most  = math.MaxInt64
	least = math.MinInt64
)

type (
	vec     = api.Vec
	night   = api.Night
	request = api.Request
	ticks   = api.Bound[api.Tick]
	fixes   = api.Bound[api.Fix]
	span    = window.Span
)

// at returns a vector, which may be no direction.
func at(x, y, z int64) vec { return vec{X: x, Y: y, Z: z} }

// chance returns a number without structure, from 0 to limit - 1; state chooses it.
func chance(state uint64, limit int64) int64 {
	for range 3 {
		state = state*6364136223846793005 + 1442695040888963407
		state ^= state >> 29
	}
	return int64(state >> 1 % uint64(limit))
}

// At the latitude of half a right angle, high is always high above the horizon, and deep always far below it.
var high, deep = at(1, 0, 40), at(1, 0, -40)

// evening returns a night in which the sun and the moon are always down and clouds are different; high is up for all of it.
func evening() night {
	return night{
		Site: api.Site{Lat: turn / 8, Lon: 777}, Spin: api.Rate{At: 5, Angle: 6, Arcs: scale.Earth()},
		Begin: 1000, Long: 600_000, Slots: 6, Sun: deep, Moon: deep, Dusk: -one / 2, Cloud: []int{0, 1, 2, 3, 4, 0},
	}
}

// wish returns a request that has all slots of evening open.
func wish() request {
	return request{ID: 7, Proposal: 3, At: high, Len: 2, Visits: 1, Height: one / 2, Moon: one / 2, Cloud: 4, Weight: 1}
}

// drawn returns a valid night and a valid request without structure; many of the slots are open.
func drawn(state uint64) (night, request) {
	draw := func(lo, hi int64) int64 {
		state++
		return lo + chance(state<<20, hi-lo+1)
	}
	toward := func() vec {
		size := draw(1, rim)
		v := at(draw(-size, size), draw(-size, size), draw(-size, size))
		if v == (vec{}) {
			v.Y = size
		}
		return v
	}
	n := night{
		Site: api.Site{Lat: api.Arc(draw(-turn/4, turn/4)), Lon: api.Arc(draw(0, turn-1))}, Spin: api.Rate{At: api.Tick(draw(-end, end)), Angle: api.Arc(draw(0, turn-1)), Arcs: scale.Earth()},
		Begin: api.Tick(draw(-end/2, end/2)), Long: api.Tick(draw(60_000, 1_800_000)), Slots: int(draw(1, 64)), Sun: toward(), Moon: toward(), Dusk: api.Fix(-draw(0, one/4)),
	}
	if draw(0, 3) == 0 {
		n.Spin.Arcs = api.Frac{Num: 1, Den: 1}
	}
	clouds := draw(0, 4)
	for range n.Slots {
		n.Cloud = append(n.Cloud, int(draw(0, clouds)))
	}
	r := request{ID: 1, At: toward(), Len: int(draw(1, 8)), Visits: 1, Height: api.Fix(draw(-one/2, one/2)), Moon: api.Fix(draw(-one, one)), Cloud: int(draw(clouds/2, 4)), Weight: 1}
	return n, r
}

// nights calls test with valid nights and requests of every sort.
func nights(count int, test func(n night, r request)) {
	n, r := evening(), wish()
	test(n, r)
	r.Cloud = 0
	test(n, r)
	n.Dusk = -one
	test(n, r)
	for i := range count {
		test(drawn(uint64(i) << 10))
	}
}

// duringTime returns the bound of the sine of the altitude of v from one time to another, as the chapter says.
func duringTime(n night, from, to api.Tick, v vec) fixes {
	return horizon.Height(n.Site, scale.Sidereal(n.Spin, bound.Of(from, to)), v)
}

// during returns the height of v in slot k, as the chapter says.
func during(n night, k int, v vec) fixes {
	return duringTime(n, n.Begin+api.Tick(k)*n.Long, n.Begin+api.Tick(k+1)*n.Long, v)
}

// reasons returns, for each of the reasons 1 to 4, whether slot k of a valid night is closed for it, as the chapter says.
func reasons(n night, r request, k int) (list [5]bool) {
	sun, field, moon, angle := during(n, k, n.Sun), during(n, k, r.At), during(n, k, n.Moon), sphere.Cosine(r.At, n.Moon)
	list[window.Light] = sun.Unknown || sun.Hi > n.Dusk
	list[window.Cloudy] = n.Cloud[k] > r.Cloud
	list[window.Low] = field.Unknown || field.Lo < r.Height
	list[window.Bright] = (angle.Unknown || angle.Hi > r.Moon) && (moon.Unknown || moon.Hi >= 0)
	return list
}

// first returns the first reason for which slot k is closed, or Open.
func first(n night, r request, k int) int {
	for why, isClosed := range reasons(n, r, k) {
		if isClosed {
			return why
		}
	}
	return window.Open
}

// isValid reports whether both a night and a request are valid.
func isValid(n night, r request) bool {
	return prop.CheckNight(n) == api.OK && prop.CheckRequest(r) == api.OK
}

// fault is a change after which a valid night or a valid request has an error.
type fault struct {
	want   api.Errno
	change func(*night, *request)
}

// nightFaults returns changes after which a night is not valid.
func nightFaults() []fault {
	return []fault{
		{api.ErrRange, func(n *night, _ *request) { n.Slots = 0 }},
		{api.ErrRange, func(n *night, _ *request) { n.Slots = 65 }},
		{api.ErrRange, func(n *night, _ *request) { n.Long = 59_999 }},
		{api.ErrRange, func(n *night, _ *request) { n.Begin = end }},
		{api.ErrRange, func(n *night, _ *request) { n.Site.Lat = turn }},
		{api.ErrRange, func(n *night, _ *request) { n.Spin.Arcs.Num = 0; n.Spin.Arcs.Den = 0 }},
		{api.ErrArg, func(n *night, _ *request) { n.Spin.Arcs = api.Frac{Den: 1} }},
		{api.ErrForm, func(n *night, _ *request) { n.Sun = vec{} }},
		{api.ErrForm, func(n *night, _ *request) { n.Moon.X = rim + 1 }},
		{api.ErrRange, func(n *night, _ *request) { n.Dusk = 1 }},
		{api.ErrForm, func(n *night, _ *request) { n.Cloud = n.Cloud[1:] }},
		{api.ErrForm, func(n *night, _ *request) { n.Slots++ }},
		{api.ErrRange, func(n *night, _ *request) { n.Cloud[len(n.Cloud)-1] = 5 }},
	}
}

// requestFaults returns changes after which a request is not valid.
func requestFaults() []fault {
	return []fault{
		{api.ErrRange, func(_ *night, r *request) { r.ID = 0 }},
		{api.ErrForm, func(_ *night, r *request) { r.At = vec{} }},
		{api.ErrRange, func(_ *night, r *request) { r.Len = 9 }},
		{api.ErrRange, func(_ *night, r *request) { r.Len = least }},
		{api.ErrForm, func(_ *night, r *request) { r.Least = 1 }},
		{api.ErrRange, func(_ *night, r *request) { r.Height = one + 1 }},
		{api.ErrRange, func(_ *night, r *request) { r.Moon = -one - 1 }},
		{api.ErrRange, func(_ *night, r *request) { r.Cloud = 5 }},
		{api.ErrRange, func(_ *night, r *request) { r.Weight = 0 }},
	}
}

// testErrors checks the errors of a function that checks a night and then a request.
func testErrors(t *testing.T, check func(night, request) api.Errno) {
	t.Helper()
	if e := check(evening(), wish()); e != api.OK {
		t.Errorf("got %d", e)
	}
	for _, f := range append(nightFaults(), requestFaults()...) {
		n, r := evening(), wish()
		f.change(&n, &r)
		if e := check(n, r); e != f.want {
			t.Errorf("%v, %v: got %d, not %d", n, r, e, f.want)
		}
	}
	for _, f := range nightFaults() {
		for _, g := range requestFaults() {
			n, r := evening(), wish()
			f.change(&n, &r)
			g.change(&n, &r)
			if e := check(n, r); e != f.want {
				t.Errorf("%v, %v: got %d, not %d", n, r, e, f.want)
			}
		}
	}
}
