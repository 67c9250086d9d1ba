package plan_test

import (
	"slices"
	"testing"

	"spyglass/api"
	"spyglass/plan"
)

// step is a call of Step.
type step struct {
	c scene
	s state
	v visit
}

// second returns the call for the second visit of pair, as early as it is possible.
func second() step {
	c, s := pair()
	return step{c, s, visited(1, 2, 6, 2)}
}

// call calls Step.
func (x step) call() (state, api.Errno) { return desk(x.c).Step(x.s, x.v) }

// P15.5: visits that are just possible, and the state after them.
func TestPossible(t *testing.T) {
	for i, change := range []func(x *step){
		func(x *step) {},
		func(x *step) { x.s.Starts[0] = nil },
		func(x *step) { x.s.Starts[0] = []int{0, 2} },
		func(x *step) { x.v.Start = 7 },
		func(x *step) { x.v.Start, x.v.Slew = 7, 3 },
		func(x *step) { x.c.p.Requests[0].Least, x.c.p.Requests[0].Most = 4, 4 },
		func(x *step) { x.c.n.Slots, x.c.n.Cloud = 8, make([]int, 8) },
		func(x *step) { x.c.n.Cloud[5], x.c.n.Cloud[8] = 1, 1 },
		func(x *step) { x.c.m.Az.Max = aim(east, 8).Az },
		func(x *step) { x.s.At, x.v.Slew = aim(east, 6), 0 },
		func(x *step) { x.s.At, x.s.Slot, x.v.Slew = aim(east, 6), 6, 0 },
		func(x *step) { x.s.At, x.v.Slew = aim(east, 5), 1 },
		func(x *step) {
			x.c.p.Requests = append([]request{once(9, south)}, x.c.p.Requests...)
			x.s.Starts = append([][]int{{3}}, x.s.Starts...)
		},
	} {
		x := second()
		change(&x)
		last := len(x.s.Starts) - 1
		want := state{Slot: x.v.Start + 2, At: aim(east, x.v.Start+2), Starts: plan.Clone(x.s).Starts}
		want.Starts[last] = append(want.Starts[last], x.v.Start)
		before := plan.Clone(x.s)
		if s, e := x.call(); e != api.OK || !sameState(s, want) || !sameState(x.s, before) {
			t.Errorf("case %d: got %v, %d, not %v; the state was %v and is %v", i, s, e, want, before, x.s)
		}
	}
}

// stepFaults returns changes after which second has an error.
func stepFaults() []fault[step] {
	list := []fault[step]{
		{0, api.ErrNone, func(x *step) { x.v.Request = 0 }},
		{0, api.ErrNone, func(x *step) { x.v.Request = 2 }},
		{0, api.ErrNone, func(x *step) { x.c.p.Requests = nil; x.s.Starts = nil }},
		{1, api.ErrForm, func(x *step) { x.v.Len = 1 }},
		{1, api.ErrForm, func(x *step) { x.v.Len = 3 }},
		{1, api.ErrForm, func(x *step) { x.v.Len = most }},
		{1, api.ErrForm, func(x *step) { x.v.Len = least }},
		{2, api.ErrOrder, func(x *step) { x.v.Start, x.v.Slew = 3, 0 }},
		{2, api.ErrOrder, func(x *step) { x.v.Start = 11 }},
		{2, api.ErrOrder, func(x *step) { x.v.Start = most }},
		{2, api.ErrOrder, func(x *step) { x.v.Start = least }},
		{2, api.ErrOrder, func(x *step) { x.v.Slew = -1 }},
		{2, api.ErrOrder, func(x *step) { x.v.Slew = 3 }},
		{2, api.ErrOrder, func(x *step) { x.v.Slew = most }},
		{2, api.ErrOrder, func(x *step) { x.v.Slew = least }},
		{2, api.ErrOrder, func(x *step) { x.s.Slot, x.v.Slew = 5, 2 }},
		{3, api.ErrFull, func(x *step) { x.s.Starts[0] = []int{0, 1, 2} }},
		{4, api.ErrLate, func(x *step) { x.c.p.Requests[0].Least = 5 }},
		{4, api.ErrLate, func(x *step) { x.c.p.Requests[0].Most = 3 }},
		{4, api.ErrLate, func(x *step) { x.s.Starts[0] = []int{0} }},
		{5, api.ErrBan, func(x *step) { x.c.n.Cloud[6] = 1 }},
		{5, api.ErrBan, func(x *step) { x.c.n.Cloud[7] = 1 }},
		{6, api.ErrRange, func(x *step) { x.c.m.Alt.Max, x.c.m.Park.Alt, x.s.At.Alt = turn/9, 0, 0 }},
		{6, api.ErrRange, func(x *step) { x.c.m.Az.Min, x.c.m.Az.Max = 0, aim(east, 6).Az-1 }},
		{7, api.ErrShort, func(x *step) { x.v.Slew = 0 }},
		{7, api.ErrShort, func(x *step) { x.v.Slew = 1 }},
		{8, api.ErrRange, func(x *step) { x.c.m.Az.Max = aim(east, 6).Az }},
		{8, api.ErrRange, func(x *step) { x.c.m.Az.Max = aim(east, 8).Az - 1 }},
	}
	return list
}

// P15.5: each error of Step, and their order.
func TestStepErrors(t *testing.T) {
	testFaults(t, second, stepFaults(), func(x step) api.Errno {
		s, e := x.call()
		if e != api.OK && !isNone(s) {
			t.Errorf("%v: got %v", x, s)
		}
		return e
	})
}

// P15.4, P15.5: the errors of states come first.
func TestStepStateErrors(t *testing.T) {
	type call struct {
		s state
		v visit
	}
	c := sample()
	d := desk(c)
	faults := append(within(0, stateFaults(), func(x *call) *state { return &x.s }),
		fault[call]{6, api.ErrNone, func(x *call) { x.v.Request = 99 }},
		fault[call]{7, api.ErrForm, func(x *call) { x.v.Len = 0 }},
		fault[call]{8, api.ErrOrder, func(x *call) { x.v.Start = 12 }})
	testFaults(t, func() call { return call{midway(), visited(1, 3, 9, 1)} }, faults, func(x call) api.Errno {
		_, e := d.Step(x.s, x.v)
		return e
	})
}

// drawnVisit returns a visit that may be possible in a state.
func (c scene) drawnVisit(s state, draw func(lo, hi int64) int64) visit {
	v := visit{Request: int(draw(0, 60)), Start: s.Slot + int(draw(-1, 5)), Len: int(draw(1, 3))}
	v.Slew = v.Start - s.Slot - int(max(0, draw(-4, 2)))
	if len(c.p.Requests) > 0 && draw(0, 9) > 0 {
		r := c.p.Requests[draw(0, int64(len(c.p.Requests)-1))]
		v.Request, v.Len = r.ID, r.Len+int(max(0, draw(-9, 1)))
	}
	return v
}

// P15.4, P15.5: what is possible, and the states after it, in states of every sort.
func TestStep(t *testing.T) {
	seen := map[api.Errno]int{}
	walks(400, func(c scene, d plan.Desk, s state, draw func(lo, hi int64) int64) {
		for range 6 {
			v := c.drawnVisit(s, draw)
			want, wantErr := c.step(s, v)
			after, e := d.Step(s, v)
			if !sameState(after, want) || e != wantErr {
				t.Fatalf("%v, %v, %v: got %v, %d, want %v, %d", c, s, v, after, e, want, wantErr)
			}
			seen[e]++
			if e == api.OK && plan.CheckState(c.n, c.m, c.p, after) != api.OK {
				t.Fatalf("%v, %v, %v: got %v", c, s, v, after)
			}
		}
	})
	for _, e := range []api.Errno{api.OK, api.ErrNone, api.ErrForm, api.ErrOrder, api.ErrFull, api.ErrLate, api.ErrBan, api.ErrRange, api.ErrShort} {
		if seen[e] < 50 {
			t.Errorf("few cases of %d: %v", e, seen)
		}
	}
}

// P15.4: the earliest visit that is possible, or none, in cases that can be followed by hand.
func TestKnownEarliest(t *testing.T) {
	for i, x := range []struct {
		change func(c *scene, s *state)
		start  int
	}{
		{func(c *scene, s *state) {}, 6},
		{func(c *scene, s *state) { s.Starts[0] = nil }, 6},
		{func(c *scene, s *state) { c.p.Requests[0].Least = 5 }, 7},
		{func(c *scene, s *state) { c.p.Requests[0].Most = 3 }, -1},
		{func(c *scene, s *state) { s.Starts[0] = []int{0, 1, 2} }, -1},
		{func(c *scene, s *state) { c.n.Cloud[6] = 1 }, 7},
		{func(c *scene, s *state) { c.n.Cloud[7] = 1 }, -1},
		{func(c *scene, s *state) { c.n.Cloud[7], c.p.Requests[0].Most = 1, 7 }, 8},
		{func(c *scene, s *state) {
			c.n.Cloud[7], c.p.Requests[0].Most = 1, 7
			c.n.Slots, c.n.Cloud = 10, c.n.Cloud[:10]
		}, 8},
		{func(c *scene, s *state) {
			c.n.Cloud[7], c.p.Requests[0].Most = 1, 7
			c.n.Slots, c.n.Cloud = 9, c.n.Cloud[:9]
		}, -1},
		{func(c *scene, s *state) { s.At = aim(east, 4) }, 5},
		{func(c *scene, s *state) { s.At, s.Starts[0] = aim(east, 4), nil }, 4},
		{func(c *scene, s *state) { s.Slot = 12 }, -1},
		{func(c *scene, s *state) { c.m.Az.Max = aim(east, 8).Az - 1 }, -1},
		// The mount reaches the field from the other side once the field has come to the end of the cable.
		{func(c *scene, s *state) { c.m.Az.Min, c.m.Park, s.At = aim(east, 7).Az, aim(east, 7), aim(east, 7) }, 7},
	} {
		c, s := pair()
		x.change(&c, &s)
		want, after, wantErr := visit{}, state{}, api.ErrNone
		if x.start >= 0 {
			wantErr, want = api.OK, visited(1, x.start-s.Slot, x.start, 2)
			after = state{Slot: x.start + 2, At: aim(east, x.start+2), Starts: [][]int{append(slices.Clone(s.Starts[0]), x.start)}}
		}
		if v, next, e := desk(c).Earliest(s, 0); v != want || !sameState(next, after) || e != wantErr {
			t.Errorf("case %d: got %v, %v, %d", i, v, next, e)
		}
	}
}

// P15.4: the earliest visits in states of every sort, and of requests that do not exist.
func TestEarliest(t *testing.T) {
	possible := 0
	walks(200, func(c scene, d plan.Desk, s state, _ func(lo, hi int64) int64) {
		list := []int{least, -1, len(c.p.Requests), len(c.p.Requests) + 1, most}
		for i := range c.p.Requests {
			list = append(list, i)
		}
		for _, i := range list {
			want, wantAfter, wantErr := c.earliest(s, i)
			v, after, e := d.Earliest(s, i)
			if v != want || !sameState(after, wantAfter) || e != wantErr {
				t.Fatalf("%v, %v, %d: got %v, %v, %d, want %v, %v, %d", c, s, i, v, after, e, want, wantAfter, wantErr)
			}
			if e == api.OK {
				possible++
			}
		}
	})
	if possible < 1000 {
		t.Errorf("%d visits are possible", possible)
	}
}
