package replan_test

import (
	"math"
	"slices"
	"testing"

	"spyglass/api"
	"spyglass/plan"
	"spyglass/replan"
	"spyglass/scale"
	"spyglass/slew"
)

const (
	one   = api.One
	turn  = api.Turn
	slow  = slew.MinSpeed
	fast  = slew.MaxSpeed
	most  = math.MaxInt64
	least = math.MinInt64
)

type (
	vec       = api.Vec
	pose      = api.Pose
	axis      = api.Axis
	mount     = api.Mount
	night     = api.Night
	proposal  = api.Proposal
	request   = api.Request
	programme = api.Programme
	visit     = api.Visit
	state     = plan.State
	news      = replan.News
)

// scene is what a plan is made for.
type scene struct {
	n night
	m mount
	p programme
}

// draws returns a function that returns numbers without structure from lo to hi; seed chooses them.
func draws(seed uint64) func(lo, hi int64) int64 {
	seed = seed<<32 | 1
	return func(lo, hi int64) int64 {
		seed = seed*6364136223846793005 + 1442695040888963407
		x := (seed ^ seed>>29) * 0xbf58476d1ce4e5b9
		return lo + int64((x^x>>32)>>1%uint64(hi-lo+1))
	}
}

// Fields a quarter of a turn apart: at the pole of evening, at slot 0, the azimuth of north is 0.
var north, east, south = vec{X: -1, Z: 1}, vec{Y: 1, Z: 1}, vec{X: 1, Z: 1}

// evening returns a night of 12 slots of a minute at the pole. The altitudes of the fields stay an eighth of a turn, and their azimuths grow slowly, by 60000 arcs a slot. It is always dark, and the moon is always down.
func evening() night {
	low := vec{Z: -1}
	return night{Site: api.Site{Lat: turn / 4}, Spin: api.Rate{Arcs: api.Frac{Num: 1, Den: 1}}, Long: 60_000, Slots: 12, Sun: low, Moon: low, Dusk: -one / 2, Cloud: make([]int, 12)}
}

// aim returns the aim at v at the beginning of slot k of evening.
func aim(v vec, k int) pose {
	p, _ := slew.Aim(evening(), v, k)
	return p
}

// telescope returns a mount that rests at the field in the north, and takes two slots for a quarter of a turn, and three for a half.
func telescope() mount {
	return mount{Az: axis{Min: -turn, Max: 2 * turn, Speed: slow, Accel: slow}, Alt: axis{Max: turn / 4, Speed: fast, Accel: fast}, Park: aim(north, 0)}
}

// wish returns a request for one visit.
func wish(id int, v vec, length, weight int) request {
	return request{ID: id, At: v, Len: length, Visits: 1, Moon: one, Weight: weight}
}

// often returns a request for some visits of a slot, in any slots.
func often(id int, v vec, visits int) request {
	r := wish(id, v, 1, 1)
	r.Visits, r.Least, r.Most = visits, 1, 64
	return r
}

// asking returns a scene with the given requests, and two proposals with the same share.
func asking(list ...request) scene {
	return scene{evening(), telescope(), programme{Proposals: []proposal{{Name: "a", Share: 1}, {Name: "b", Share: 1}}, Requests: list}}
}

// sample returns a scene with several requests; its plan is the one that planned returns.
func sample() scene {
	x, y, z := wish(2, north, 2, 3), wish(7, east, 3, 2), often(5, south, 2)
	y.Proposal = 1
	return asking(x, y, z)
}

// planned returns the plan of sample: the mount stands at the north at first, and takes two slots to the east and two to the south.
func planned() []visit {
	return []visit{visited(2, 0, 0, 2), visited(7, 2, 4, 3), visited(5, 2, 9, 1), visited(5, 0, 10, 1)}
}

// visited returns a visit.
func visited(id, slots, start, length int) visit {
	return visit{Request: id, Slew: slots, Start: start, Len: length}
}

// from returns news from slot k on, without clouds, for a night of 12 slots.
func from(k int, drop ...int) news { return news{At: k, Cloud: make([]int, 12-k), Drop: drop} }

// drawnAxis returns a valid axis without structure that can turn by at least half a turn.
func drawnAxis(draw func(lo, hi int64) int64) axis {
	a := axis{Min: -draw(turn/8, turn), Max: draw(turn/2, 2*turn), Speed: draw(slow, 8*slow)}
	a.Accel = draw((a.Speed+slew.MaxRamp-1)/slew.MaxRamp, a.Speed)
	return a
}

// drawnClouds returns the grades of some slots, most of them 0.
func drawnClouds(draw func(lo, hi int64) int64, slots int) (list []int) {
	worst := draw(0, 4)
	for range slots {
		list = append(list, int(max(0, draw(-8, worst))))
	}
	return list
}

// drawnNight returns a valid night without structure, of which many slots are dark.
func drawnNight(draw func(lo, hi int64) int64) night {
	n := night{
		Site: api.Site{Lat: api.Arc(draw(turn/10, turn/4)), Lon: api.Arc(draw(0, turn-1))}, Spin: api.Rate{Angle: api.Arc(draw(0, turn-1)), Arcs: scale.Earth()},
		Begin: api.Tick(draw(-api.MaxTick/2, api.MaxTick/2)), Long: api.Tick(draw(60_000, 300_000)), Slots: int(draw(1, 24)),
		Sun: vec{X: draw(-15, 15), Y: draw(-15, 15), Z: -40}, Moon: vec{X: draw(-40, 40), Y: draw(-40, 40), Z: draw(-40, 0) | 1},
	}
	n.Cloud = drawnClouds(draw, n.Slots)
	return n
}

// drawnRequest returns a valid request without structure.
func drawnRequest(draw func(lo, hi int64) int64, proposals int) request {
	r := request{
		Proposal: int(draw(0, int64(proposals-1))), At: vec{X: draw(-15, 15), Y: draw(-15, 15), Z: draw(5, 20)}, Len: int(draw(1, 4)), Visits: int(draw(1, 4)),
		Height: api.Fix(draw(-one/4, one/8)), Moon: api.Fix(draw(0, one)), Cloud: int(draw(0, 2)), Weight: int(draw(1, 3)),
	}
	if r.Visits > 1 {
		r.Least = int(draw(1, 3))
		r.Most = int(draw(int64(r.Least), 20))
	}
	return r
}

// drawnScene returns a valid scene without structure, in which many visits are possible.
func drawnScene(draw func(lo, hi int64) int64) scene {
	c := scene{n: drawnNight(draw), m: mount{Az: drawnAxis(draw), Alt: drawnAxis(draw)}}
	c.m.Park = pose{Az: draw(0, turn/2), Alt: draw(0, turn/2)}
	for i := range draw(1, 3) {
		c.p.Proposals = append(c.p.Proposals, proposal{Name: string(rune('a' + i)), Share: int(draw(1, 3))})
	}
	for i := range draw(0, 6) {
		r := drawnRequest(draw, len(c.p.Proposals))
		r.ID = int(10*i + draw(1, 9))
		c.p.Requests = append(c.p.Requests, r)
	}
	return c
}

// sameState reports whether two states are equal.
func sameState(s, t state) bool {
	return s.Slot == t.Slot && s.At == t.At && slices.EqualFunc(s.Starts, t.Starts, slices.Equal)
}

// sameNight reports whether two nights are equal.
func sameNight(n, o night) bool {
	same := slices.Equal(n.Cloud, o.Cloud)
	n.Cloud, o.Cloud = nil, nil
	return same && n.Site == o.Site && n.Spin == o.Spin && n.Begin == o.Begin && n.Long == o.Long && n.Slots == o.Slots && n.Sun == o.Sun && n.Moon == o.Moon && n.Dusk == o.Dusk
}

// fault is a change after which a valid value has an error; those of a lower rank are checked before it.
type fault[T any] struct {
	rank int
	want api.Errno
	make func(*T)
}

// testFaults checks the error of each fault alone, and that of each fault beside one that is checked after it.
func testFaults[T any](t *testing.T, valid func() T, faults []fault[T], check func(T) api.Errno) {
	t.Helper()
	if e := check(valid()); e != api.OK {
		t.Errorf("%v: got %d", valid(), e)
	}
	for _, a := range faults {
		alone := fault[T]{a.rank + 1, api.OK, func(*T) {}}
		for _, b := range append([]fault[T]{alone}, faults...) {
			if b.rank <= a.rank {
				continue
			}
			// The one that is checked first is made last: it may take the other one back.
			x := valid()
			b.make(&x)
			a.make(&x)
			if e := check(x); e != a.want {
				t.Errorf("%v: got %d, not %d", x, e, a.want)
			}
		}
	}
}

// within returns the faults of a part as faults of the whole; skip is the least of their ranks.
func within[T, U any](skip int, faults []fault[T], part func(*U) *T) (list []fault[U]) {
	for _, f := range faults {
		list = append(list, fault[U]{skip + f.rank, f.want, func(x *U) { f.make(part(x)) }})
	}
	return list
}

// sceneFaults returns changes after which a scene is not valid; their ranks are less than 6.
func sceneFaults() []fault[scene] {
	return []fault[scene]{
		{0, api.ErrRange, func(c *scene) { c.n.Slots = most }},
		{1, api.ErrForm, func(c *scene) { c.n.Cloud = nil }},
		{2, api.ErrOrder, func(c *scene) { c.m.Az.Min = c.m.Az.Max + 1 }},
		{3, api.ErrRange, func(c *scene) { c.m.Park.Alt = -1 }},
		{4, api.ErrTwice, func(c *scene) { c.p.Proposals[1].Name = c.p.Proposals[0].Name }},
		{5, api.ErrNone, func(c *scene) { c.p.Requests[0].Proposal = 2 }},
		{5, api.ErrForm, func(c *scene) { c.p.Requests[0].At = vec{} }},
	}
}
