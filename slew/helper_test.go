package slew_test

import (
	"math"
	"testing"

	"spyglass/api"
	"spyglass/horizon"
	"spyglass/scale"
	"spyglass/slew"
)

const (
	rim   = api.MaxCoord
	turn  = api.Turn
	end   = api.MaxTick
	limit = api.MaxAxis
	slow  = slew.MinSpeed
	fast  = slew.MaxSpeed
	most  = math.MaxInt64
	least = math.MinInt64
)

type (
	vec   = api.Vec
	axis  = api.Axis
	pose  = api.Pose
	mount = api.Mount
	night = api.Night
)

// at returns a vector, which may be no direction.
func at(x, y, z int64) vec { return vec{X: x, Y: y, Z: z} }

// to returns a pose.
func to(az, alt int64) pose { return pose{Az: az, Alt: alt} }

// chance returns a number without structure, from 0 to limit - 1; state chooses it.
func chance(state uint64, limit int64) int64 {
	for range 3 {
		state = state*6364136223846793005 + 1442695040888963407
		state ^= state >> 29
	}
	return int64(state >> 1 % uint64(limit))
}

// draws returns a function that returns numbers without structure from lo to hi.
func draws(state uint64) func(lo, hi int64) int64 {
	return func(lo, hi int64) int64 {
		state++
		return lo + chance(state<<20, hi-lo+1)
	}
}

// plain returns a valid axis with a range of two turns.
func plain() axis { return axis{Min: -turn, Max: turn, Speed: 2 * slow, Accel: slow} }

// telescope returns a valid mount.
func telescope() mount {
	return mount{Az: plain(), Alt: axis{Min: -turn / 8, Max: turn / 4, Speed: slow, Accel: slow / 4}, Park: to(5, turn/4)}
}

// wide returns a mount that reaches every direction in several ways.
func wide() mount {
	a := axis{Min: -limit, Max: limit, Speed: fast, Accel: fast / 2}
	return mount{Az: a, Alt: a}
}

// evening returns a valid night.
func evening() night {
	return night{
		Site: api.Site{Lat: turn / 8, Lon: 777}, Spin: api.Rate{At: 5, Angle: 6, Arcs: scale.Earth()},
		Begin: 1000, Long: 600_000, Slots: 6, Sun: at(1, 0, -40), Moon: at(0, 1, 0), Dusk: -5, Cloud: []int{0, 1, 2, 3, 4, 0},
	}
}

// drawnAxis returns a valid axis without structure, which may be slow or fast, and may have small or wide limits.
func drawnAxis(draw func(lo, hi int64) int64) axis {
	a := axis{Speed: draw(slow, fast)}
	switch draw(0, 3) {
	case 0:
		a.Speed = slow + draw(0, 200)
	case 1:
		a.Speed = draw(slow, 8*slow)
	}
	a.Accel = draw((a.Speed+slew.MaxRamp-1)/slew.MaxRamp, a.Speed)
	reach := int64(limit)
	if draw(0, 1) == 0 {
		reach = draw(1, turn)
	}
	a.Min = draw(-reach, reach)
	a.Max = draw(a.Min, reach)
	return a
}

// axes returns valid axes of every sort.
func axes(count int) []axis {
	list := []axis{
		plain(), telescope().Alt, wide().Az, {Speed: slow, Accel: slow}, {Speed: fast, Accel: fast, Max: turn - 1}, {Speed: slow, Accel: 1 << 18, Min: -limit, Max: limit},
		{Speed: fast, Accel: fast / slew.MaxRamp, Min: -limit, Max: limit}, {Speed: fast - 1, Accel: fast / slew.MaxRamp, Min: limit, Max: limit}, {Speed: slow + 1, Accel: 1<<18 + 1, Min: -limit, Max: 0},
		{Speed: fast, Accel: fast - 1, Min: -7, Max: turn / 2}, {Speed: 3 * slow, Accel: 2 * slow, Min: turn, Max: 3 * turn},
	}
	for i := range count {
		list = append(list, drawnAxis(draws(uint64(i)<<10)))
	}
	return list
}

// drawnMount returns a valid mount without structure that reaches most directions, and a pose within its limits.
func drawnMount(draw func(lo, hi int64) int64) (mount, pose) {
	m := mount{Az: drawnAxis(draw), Alt: drawnAxis(draw)}
	for _, a := range []*axis{&m.Az, &m.Alt} {
		if draw(0, 3) > 0 {
			a.Min, a.Max = -draw(turn/2, 2*turn), draw(turn/2, 2*turn)
		}
	}
	m.Park = to(draw(m.Az.Min, m.Az.Max), draw(m.Alt.Min, m.Alt.Max))
	return m, to(draw(m.Az.Min, m.Az.Max), draw(m.Alt.Min, m.Alt.Max))
}

// drawnNight returns a valid night without structure, and a direction.
func drawnNight(draw func(lo, hi int64) int64) (night, vec) {
	n := evening()
	n.Site = api.Site{Lat: api.Arc(draw(-turn/4, turn/4)), Lon: api.Arc(draw(0, turn-1))}
	n.Spin.At, n.Spin.Angle = api.Tick(draw(-end, end)), api.Arc(draw(0, turn-1))
	n.Begin, n.Long, n.Slots = api.Tick(draw(-end/2, end/2)), api.Tick(draw(60_000, 1_800_000)), int(draw(1, 64))
	n.Cloud = make([]int, n.Slots)
	size := draw(1, rim)
	return n, at(draw(-size, size), draw(-size, size), draw(1, size))
}

// aimAt returns the aim at v at the beginning of slot k, as the chapter says.
func aimAt(n night, v vec, k int) (pose, api.Errno) {
	return horizon.Aim(n.Site, scale.Angle(n.Spin, n.Begin+api.Tick(k)*n.Long), v)
}

// fault is a change after which a valid value has an error; those of a lower rank are checked before it.
type fault[T any] struct {
	rank int
	want api.Errno
	make func(*T)
}

// testFaults checks the error of each fault alone, and that of each fault beside one that is checked after it.
func testFaults[T any](t *testing.T, valid func() T, faults []fault[T], check func(T) api.Errno) {
	t.Helper()
	if e := check(valid()); e != api.OK {
		t.Errorf("%v: got %d", valid(), e)
	}
	for _, a := range faults {
		x := valid()
		a.make(&x)
		if e := check(x); e != a.want {
			t.Errorf("%v: got %d, not %d", x, e, a.want)
		}
		for _, b := range faults {
			if b.rank <= a.rank {
				continue
			}
			// The one that is checked first is made last: it may take the other one back.
			x := valid()
			b.make(&x)
			a.make(&x)
			if e := check(x); e != a.want {
				t.Errorf("%v: got %d, not %d", x, e, a.want)
			}
		}
	}
}

// within returns the faults of a part as faults of the whole; skip is the least of their ranks.
func within[T, U any](skip int, faults []fault[T], part func(*U) *T) (list []fault[U]) {
	for _, f := range faults {
		list = append(list, fault[U]{skip + f.rank, f.want, func(x *U) { f.make(part(x)) }})
	}
	return list
}

// axisFaults returns changes after which an axis is not valid.
func axisFaults() []fault[axis] {
	return []fault[axis]{
		{0, api.ErrRange, func(a *axis) { a.Min = -limit - 1 }},
		{0, api.ErrRange, func(a *axis) { a.Min = least }},
		{0, api.ErrRange, func(a *axis) { a.Max = limit + 1 }},
		{0, api.ErrRange, func(a *axis) { a.Max = most }},
		{1, api.ErrOrder, func(a *axis) { a.Min, a.Max = 1, 0 }},
		{1, api.ErrOrder, func(a *axis) { a.Min, a.Max = limit, limit-1 }},
		{1, api.ErrOrder, func(a *axis) { a.Min, a.Max = limit+1, limit }},
		{1, api.ErrOrder, func(a *axis) { a.Min, a.Max = -limit, -limit-1 }},
		{1, api.ErrOrder, func(a *axis) { a.Min, a.Max = most, least }},
		{2, api.ErrRange, func(a *axis) { a.Speed, a.Accel = slow-1, slow-1 }},
		{2, api.ErrRange, func(a *axis) { a.Speed, a.Accel = fast+1, fast }},
		{2, api.ErrRange, func(a *axis) { a.Speed, a.Accel = most, most }},
		{2, api.ErrRange, func(a *axis) { a.Speed, a.Accel = least, least }},
		{2, api.ErrRange, func(a *axis) { a.Speed, a.Accel = 0, 0 }},
		{2, api.ErrRange, func(a *axis) { a.Speed, a.Accel = 0, 1 }},
		{2, api.ErrRange, func(a *axis) { a.Accel = a.Speed + 1 }},
		{2, api.ErrRange, func(a *axis) { a.Accel = 0 }},
		{2, api.ErrRange, func(a *axis) { a.Accel = -1 }},
		{2, api.ErrRange, func(a *axis) { a.Accel = least }},
		{2, api.ErrRange, func(a *axis) { a.Accel = least + fast }},
		{2, api.ErrRange, func(a *axis) { a.Accel = most }},
		{2, api.ErrRange, func(a *axis) { a.Accel = 1 << 58 }},
		{2, api.ErrRange, func(a *axis) { a.Speed, a.Accel = slow, 1<<18-1 }},
		{2, api.ErrRange, func(a *axis) { a.Speed, a.Accel = slow+1, 1<<18 }},
		{2, api.ErrRange, func(a *axis) { a.Speed, a.Accel = fast, fast/64-1 }},
		{2, api.ErrRange, func(a *axis) { a.Speed, a.Accel = fast, 1 }},
	}
}

// mountFaults returns changes after which a mount is not valid.
func mountFaults() []fault[mount] {
	list := within(0, axisFaults(), func(m *mount) *axis { return &m.Az })
	list = append(list, within(3, axisFaults(), func(m *mount) *axis { return &m.Alt })...)
	return append(list,
		fault[mount]{6, api.ErrRange, func(m *mount) { m.Park.Az = m.Az.Min - 1 }},
		fault[mount]{6, api.ErrRange, func(m *mount) { m.Park.Az = m.Az.Max + 1 }},
		fault[mount]{6, api.ErrRange, func(m *mount) { m.Park.Alt = m.Alt.Min - 1 }},
		fault[mount]{6, api.ErrRange, func(m *mount) { m.Park.Alt = m.Alt.Max + 1 }},
		fault[mount]{6, api.ErrRange, func(m *mount) { m.Park = to(most, least) }})
}

// nightFaults returns changes after which a night is not valid.
func nightFaults() []fault[night] {
	return []fault[night]{
		{0, api.ErrRange, func(n *night) { n.Slots = 0 }},
		{0, api.ErrRange, func(n *night) { n.Slots = 65 }},
		{0, api.ErrRange, func(n *night) { n.Long = 0 }},
		{0, api.ErrRange, func(n *night) { n.Long = least }},
		{0, api.ErrRange, func(n *night) { n.Begin = end }},
		{0, api.ErrRange, func(n *night) { n.Site.Lat = turn }},
		{1, api.ErrArg, func(n *night) { n.Spin.Arcs = api.Frac{Den: 1} }},
		{2, api.ErrForm, func(n *night) { n.Sun = vec{} }},
		{2, api.ErrForm, func(n *night) { n.Moon.X = rim + 1 }},
		{3, api.ErrRange, func(n *night) { n.Dusk = 1 }},
		{4, api.ErrForm, func(n *night) { n.Cloud = n.Cloud[1:] }},
		{4, api.ErrForm, func(n *night) { n.Cloud = nil }},
		{5, api.ErrRange, func(n *night) { n.Cloud[len(n.Cloud)-1] = 5 }},
	}
}
