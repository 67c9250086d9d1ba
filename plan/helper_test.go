package plan_test

import (
	"math"
	"slices"
	"testing"

	"spyglass/api"
	"spyglass/plan"
	"spyglass/scale"
	"spyglass/slew"
)

const (
	one   = api.One
	rim   = api.MaxCoord
	turn  = api.Turn
	end   = api.MaxTick
	limit = api.MaxAxis
	slow  = slew.MinSpeed
	fast  = slew.MaxSpeed
	most  = math.MaxInt64
	least = math.MinInt64
)

type (
	vec       = api.Vec
	pose      = api.Pose
	axis      = api.Axis
	mount     = api.Mount
	night     = api.Night
	proposal  = api.Proposal
	request   = api.Request
	programme = api.Programme
	visit     = api.Visit
	state     = plan.State
	candidate = plan.Candidate
)

// scene is what a plan is made for.
type scene struct {
	n night
	m mount
	p programme
}

// at returns a vector, which may be no direction.
func at(x, y, z int64) vec { return vec{X: x, Y: y, Z: z} }

// to returns a pose.
func to(az, alt int64) pose { return pose{Az: az, Alt: alt} }

// chance returns a number without structure, from 0 to limit - 1; state chooses it.
func chance(state uint64, limit int64) int64 {
	for range 3 {
		state = state*6364136223846793005 + 1442695040888963407
		state ^= state >> 29
	}
	return int64(state >> 1 % uint64(limit))
}

// draws returns a function that returns numbers without structure from lo to hi.
func draws(state uint64) func(lo, hi int64) int64 {
	return func(lo, hi int64) int64 {
		state++
		return lo + chance(state<<20, hi-lo+1)
	}
}

// Four fields, a quarter of a turn apart: at the pole of evening, at slot 0, the azimuth of north is 0.
var north, east, south, west = at(-1, 0, 1), at(0, 1, 1), at(1, 0, 1), at(0, -1, 1)

// evening returns a night of 12 slots of a minute at the pole. The altitudes of the fields stay an eighth of a turn, and their azimuths grow slowly, by 60000 arcs a slot. It is always dark, and the moon is always down.
func evening() night {
	low := at(0, 0, -1)
	return night{Site: api.Site{Lat: turn / 4}, Spin: api.Rate{Arcs: api.Frac{Num: 1, Den: 1}}, Long: 60_000, Slots: 12, Sun: low, Moon: low, Dusk: -one / 2, Cloud: make([]int, 12)}
}

// aim returns the aim at v at the beginning of slot k of evening.
func aim(v vec, k int) pose {
	p, _ := slew.Aim(evening(), v, k)
	return p
}

// telescope returns a mount that rests at the field in the north, and takes two slots for a quarter of a turn, and three for a half.
func telescope() mount {
	return mount{Az: axis{Min: -turn, Max: 2 * turn, Speed: slow, Accel: slow}, Alt: axis{Max: turn / 4, Speed: fast, Accel: fast}, Park: aim(north, 0)}
}

// once returns a request for one visit of a slot.
func once(id int, v vec) request {
	return request{ID: id, At: v, Len: 1, Visits: 1, Moon: one, Weight: 1}
}

// often returns a request for four visits of a slot, in any slots.
func often(id int, v vec) request {
	r := once(id, v)
	r.Visits, r.Least, r.Most = 4, 1, 64
	return r
}

// asking returns a scene with the given requests, and two proposals with the same share.
func asking(list ...request) scene {
	return scene{evening(), telescope(), programme{Proposals: []proposal{{Name: "a", Share: 1}, {Name: "b", Share: 1}}, Requests: list}}
}

// sample returns a scene with several requests.
func sample() scene {
	x, y := often(3, east), once(1, south)
	x.Len, x.Most, y.Proposal, y.Weight = 2, 10, 1, 5
	return asking(x, y, often(2, north))
}

// midway returns a state of sample in which some visits were made.
func midway() state {
	return state{Slot: 6, At: aim(north, 6), Starts: [][]int{{1, 4}, {}, {0, 3, 5}}}
}

// visited returns a visit.
func visited(id, slots, start, length int) visit {
	return visit{Request: id, Slew: slots, Start: start, Len: length}
}

// desk returns the desk of a valid scene.
func desk(c scene) plan.Desk {
	d, _ := plan.NewDesk(c.n, c.m, c.p)
	return d
}

// drawnAxis returns a valid axis without structure, with limits from one of two ranges each.
func drawnAxis(draw func(lo, hi int64) int64, min, mid, max int64) axis {
	a := axis{Min: draw(min, mid), Max: draw(mid, max), Speed: draw(slow, 12*slow)}
	a.Accel = draw((a.Speed+slew.MaxRamp-1)/slew.MaxRamp, a.Speed)
	return a
}

// drawnNight returns a valid night without structure, of which most slots are dark.
func drawnNight(draw func(lo, hi int64) int64) night {
	n := night{
		Site: api.Site{Lat: api.Arc(draw(turn/10, turn/4)), Lon: api.Arc(draw(0, turn-1))}, Spin: api.Rate{At: api.Tick(draw(-end, end)), Angle: api.Arc(draw(0, turn-1)), Arcs: scale.Earth()},
		Begin: api.Tick(draw(-end/2, end/2)), Long: api.Tick(draw(60_000, 300_000)), Slots: int(draw(1, 24)),
		Sun: at(draw(-25, 25), draw(-25, 25), -40), Moon: at(draw(-40, 40), draw(-40, 40), draw(-40, 40)),
	}
	if draw(0, 2) == 0 {
		n.Spin.Arcs = api.Frac{Num: 100, Den: 1}
	}
	clouds := draw(0, 4)
	for range n.Slots {
		n.Cloud = append(n.Cloud, int(max(0, draw(-12, clouds))))
	}
	return n
}

// drawnScene returns a valid scene without structure, in which many visits are possible.
func drawnScene(draw func(lo, hi int64) int64) scene {
	c := scene{n: drawnNight(draw)}
	c.m = mount{Az: drawnAxis(draw, -turn, 0, 2*turn), Alt: drawnAxis(draw, -turn/8, 0, turn/2)}
	for i := range draw(1, 3) {
		c.p.Proposals = append(c.p.Proposals, proposal{Name: string(rune('a' + i)), Share: int(draw(1, 3))})
	}
	for i := range draw(0, 5) {
		r := request{
			ID: int(10*i + draw(1, 9)), Proposal: int(draw(0, int64(len(c.p.Proposals)-1))), At: at(draw(-15, 15), draw(-15, 15), draw(5, 20)), Len: int(draw(1, 3)), Visits: int(draw(1, 4)),
			Height: api.Fix(draw(-one/4, one/4)), Moon: api.Fix(draw(-one/4, one)), Cloud: int(draw(0, 2)), Weight: int(draw(1, 2)),
		}
		if r.Visits > 1 {
			r.Least = int(draw(1, 4))
			r.Most = int(draw(int64(r.Least), 10))
		}
		c.p.Requests = append(c.p.Requests, r)
	}
	c.m = c.tight(draw)
	c.m.Park = to(draw(c.m.Az.Min, c.m.Az.Max), draw(c.m.Alt.Min, c.m.Alt.Max))
	return c
}

// tight returns the mount of c; in many cases one of its axes ends where a field is at the beginning of some slot, or nearly there.
func (c scene) tight(draw func(lo, hi int64) int64) mount {
	if len(c.p.Requests) == 0 || draw(0, 1) == 0 {
		return c.m
	}
	p, _ := slew.Aim(c.n, c.p.Requests[0].At, int(draw(0, int64(c.n.Slots))))
	switch tight := c.m; draw(0, 3) {
	case 0:
		tight.Az.Max = max(tight.Az.Min, p.Az+draw(-1, 1))
		return tight
	case 1:
		tight.Az.Min, tight.Az.Max = p.Az-draw(-1, 1), p.Az+turn
		return tight
	case 2:
		tight.Alt.Max = max(tight.Alt.Min, p.Alt+draw(-1, 1))
		return tight
	default:
		tight.Alt.Min, tight.Alt.Max = p.Alt-draw(-1, 1), turn/4+2
		return tight
	}
}

// sameState reports whether two states are equal.
func sameState(s, t state) bool {
	return s.Slot == t.Slot && s.At == t.At && slices.EqualFunc(s.Starts, t.Starts, slices.Equal)
}

// isNone reports whether s is the zero value.
func isNone(s state) bool { return sameState(s, state{}) }

// fault is a change after which a valid value has an error; those of a lower rank are checked before it.
type fault[T any] struct {
	rank int
	want api.Errno
	make func(*T)
}

// testFaults checks the error of each fault alone, and that of each fault beside one that is checked after it.
func testFaults[T any](t *testing.T, valid func() T, faults []fault[T], check func(T) api.Errno) {
	t.Helper()
	if e := check(valid()); e != api.OK {
		t.Errorf("%v: got %d", valid(), e)
	}
	for _, a := range faults {
		x := valid()
		a.make(&x)
		if e := check(x); e != a.want {
			t.Errorf("%v: got %d, not %d", x, e, a.want)
		}
		for _, b := range faults {
			if b.rank <= a.rank {
				continue
			}
			// The one that is checked first is made last: it may take the other one back.
			x := valid()
			b.make(&x)
			a.make(&x)
			if e := check(x); e != a.want {
				t.Errorf("%v: got %d, not %d", x, e, a.want)
			}
		}
	}
}

// within returns the faults of a part as faults of the whole; skip is the least of their ranks.
func within[T, U any](skip int, faults []fault[T], part func(*U) *T) (list []fault[U]) {
	for _, f := range faults {
		list = append(list, fault[U]{skip + f.rank, f.want, func(x *U) { f.make(part(x)) }})
	}
	return list
}

// sceneFaults returns changes after which a scene is not valid; their ranks are less than 12.
func sceneFaults() []fault[scene] {
	return []fault[scene]{
		{0, api.ErrRange, func(c *scene) { c.n.Slots = 0 }},
		{0, api.ErrRange, func(c *scene) { c.n.Slots = most }},
		{1, api.ErrArg, func(c *scene) { c.n.Spin.Arcs = api.Frac{Den: 1} }},
		{2, api.ErrForm, func(c *scene) { c.n.Moon = vec{} }},
		{3, api.ErrForm, func(c *scene) { c.n.Cloud = nil }},
		{4, api.ErrRange, func(c *scene) { c.n.Cloud[len(c.n.Cloud)-1] = 5 }},
		{5, api.ErrOrder, func(c *scene) { c.m.Az.Min = c.m.Az.Max + 1 }},
		{6, api.ErrRange, func(c *scene) { c.m.Alt.Speed = 0 }},
		{6, api.ErrRange, func(c *scene) { c.m.Alt.Accel = most }},
		{7, api.ErrRange, func(c *scene) { c.m.Park.Alt = -1 }},
		{8, api.ErrLarge, func(c *scene) { c.p.Requests = make([]request, 17) }},
		{8, api.ErrLarge, func(c *scene) { c.p.Proposals = append(slices.Clone(c.p.Proposals), make([]proposal, 5)...) }},
		{9, api.ErrName, func(c *scene) { c.p.Proposals[0].Name = "" }},
		{10, api.ErrTwice, func(c *scene) { c.p.Proposals[1].Name = c.p.Proposals[0].Name }},
		{11, api.ErrNone, func(c *scene) { c.p.Requests[0].Proposal = 2 }},
		{11, api.ErrForm, func(c *scene) { c.p.Requests[0].At = vec{} }},
	}
}

// stateFaults returns changes after which midway does not fit sample; their ranks are less than 6.
func stateFaults() []fault[state] {
	list := []fault[state]{
		{0, api.ErrRange, func(s *state) { s.Slot = -1 }},
		{0, api.ErrRange, func(s *state) { s.Slot = 13 }},
		{0, api.ErrRange, func(s *state) { s.Slot = least }},
		{0, api.ErrRange, func(s *state) { s.Slot = most }},
		{0, api.ErrRange, func(s *state) { s.At.Az = -turn - 1 }},
		{0, api.ErrRange, func(s *state) { s.At.Az = 2*turn + 1 }},
		{0, api.ErrRange, func(s *state) { s.At.Alt = -1 }},
		{0, api.ErrRange, func(s *state) { s.At.Alt = turn/4 + 1 }},
		{1, api.ErrForm, func(s *state) { s.Starts = nil }},
		{1, api.ErrForm, func(s *state) { s.Starts = s.Starts[:2] }},
		{1, api.ErrForm, func(s *state) { s.Starts = append(slices.Clone(s.Starts), nil) }},
		{2, api.ErrFull, func(s *state) { s.Starts[0] = []int{0, 1, 2, 3, 4} }},
		{2, api.ErrFull, func(s *state) { s.Starts[0] = []int{-1, 7, 7, 3, 2} }},
		{4, api.ErrFull, func(s *state) { s.Starts[1] = []int{0, 1} }},
	}
	for _, starts := range [][]int{{-1}, {least}, {-1, 0}, {5}, {0, 5}, {0, most}, {most}, {most - 1}, {2, 2}, {3, 2}, {0, 2, 1, 4}, {0, 1, 4, 4}} {
		list = append(list, fault[state]{3, api.ErrOrder, func(s *state) { s.Starts[0] = starts }})
	}
	for _, starts := range [][]int{{-1}, {6}, {0, 6}, {4, 4}, {1, 5, 0}} {
		list = append(list, fault[state]{5, api.ErrOrder, func(s *state) { s.Starts[2] = starts }})
	}
	return list
}
