package plan_test

import (
	"slices"
	"testing"

	"spyglass/api"
	"spyglass/plan"
	"spyglass/slew"
)

// pair returns a scene with one request for visits of two slots in the east, 3 to 5 slots apart, and a state from which slot 6 is the first one in which the mount can be there, 4 slots after the first visit.
func pair() (scene, state) {
	r := often(1, east)
	r.Len, r.Visits, r.Least, r.Most = 2, 3, 3, 5
	return asking(r), state{Slot: 4, At: aim(north, 4), Starts: [][]int{{2}}}
}

// P15.2: each reason, where it just applies and where it just does not apply, and their order.
func TestReasons(t *testing.T) {
	for _, x := range []struct {
		name          string
		change        func(c *scene, s *state)
		reason, start int
	}{
		{"nothing", func(c *scene, s *state) {}, plan.Fit, 6},
		{"no visit yet", func(c *scene, s *state) { s.Starts[0] = nil; c.p.Requests[0].Least = 5 }, plan.Fit, 6},
		{"two visits", func(c *scene, s *state) { s.Starts[0] = []int{0, 2} }, plan.Fit, 6},
		{"three visits", func(c *scene, s *state) { s.Starts[0] = []int{0, 1, 2} }, plan.Done, 0},
		{"the only visit", func(c *scene, s *state) {
			c.p.Requests[0].Visits, c.p.Requests[0].Least, c.p.Requests[0].Most = 1, 0, 0
		}, plan.Done, 0},
		{"the last slots", func(c *scene, s *state) { c.n.Slots, c.n.Cloud = 8, make([]int, 8) }, plan.Fit, 6},
		{"no slots left", func(c *scene, s *state) { c.n.Slots, c.n.Cloud = 7, make([]int, 7) }, plan.Far, 0},
		{"the end", func(c *scene, s *state) { s.Slot = 12 }, plan.Far, 0},
		{"the end after all visits", func(c *scene, s *state) { s.Slot, s.Starts[0] = 12, []int{0, 1, 2} }, plan.Done, 0},
		{"it is there", func(c *scene, s *state) { s.At = aim(east, 4); c.p.Requests[0].Least = 2 }, plan.Fit, 4},
		{"it is there at the end", func(c *scene, s *state) { s.Slot, s.At, c.p.Requests[0].Most = 10, aim(east, 10), 8 }, plan.Fit, 10},
		{"it is there after the end", func(c *scene, s *state) { s.Slot, s.At = 11, aim(east, 11) }, plan.Far, 0},
		{"it is nearly there", func(c *scene, s *state) { s.At = aim(east, 5) }, plan.Fit, 5},
		{"half a turn", func(c *scene, s *state) { s.At = aim(west, 4) }, plan.Fit, 7},
		{"a short cable", func(c *scene, s *state) { c.m.Az.Min, c.m.Az.Max = 0, aim(east, 6).Az-1 }, plan.Far, 0},
		{"a cable from the other side", func(c *scene, s *state) { c.m.Az.Min, c.m.Park, s.At = aim(east, 7).Az, aim(east, 7), aim(east, 7) }, plan.Fit, 7},
		{"a low mount", func(c *scene, s *state) { c.m.Alt.Max, c.m.Park.Alt, s.At.Alt = turn/9, 0, 0 }, plan.Far, 0},
		{"the least gap", func(c *scene, s *state) { c.p.Requests[0].Least = 4 }, plan.Fit, 6},
		{"a gap too short", func(c *scene, s *state) { c.p.Requests[0].Least = 5 }, plan.Early, 6},
		{"the longest gap", func(c *scene, s *state) { c.p.Requests[0].Most = 4 }, plan.Fit, 6},
		{"a gap too long", func(c *scene, s *state) { c.p.Requests[0].Most = 3 }, plan.Overdue, 6},
		{"the last visit counts", func(c *scene, s *state) { s.Starts[0] = []int{0, 1} }, plan.Fit, 6},
		{"the last visit is too old", func(c *scene, s *state) { s.Starts[0] = []int{0} }, plan.Overdue, 6},
		{"clouds at first", func(c *scene, s *state) { c.n.Cloud[6] = 1 }, plan.Shut, 6},
		{"clouds at last", func(c *scene, s *state) { c.n.Cloud[7] = 1 }, plan.Shut, 6},
		{"clouds around", func(c *scene, s *state) { c.n.Cloud[5], c.n.Cloud[8] = 1, 1 }, plan.Fit, 6},
		{"few clouds", func(c *scene, s *state) { c.n.Cloud[6], c.p.Requests[0].Cloud = 1, 1 }, plan.Fit, 6},
		{"a cable just long enough", func(c *scene, s *state) { c.m.Az.Max = aim(east, 8).Az }, plan.Fit, 6},
		{"a cable not long enough", func(c *scene, s *state) { c.m.Az.Max = aim(east, 8).Az - 1 }, plan.Limit, 6},
		{"a cable just to the field", func(c *scene, s *state) { c.m.Az.Max = aim(east, 6).Az }, plan.Limit, 6},
		{"too early and cloudy", func(c *scene, s *state) { c.p.Requests[0].Least, c.n.Cloud[6] = 5, 1 }, plan.Early, 6},
		{"too late and cloudy", func(c *scene, s *state) { c.p.Requests[0].Most, c.n.Cloud[6] = 3, 1 }, plan.Overdue, 6},
		{"too late and a short cable", func(c *scene, s *state) { c.p.Requests[0].Most, c.m.Az.Max = 3, aim(east, 6).Az }, plan.Overdue, 6},
		{"cloudy and a short cable", func(c *scene, s *state) { c.n.Cloud[7], c.m.Az.Max = 1, aim(east, 6).Az }, plan.Shut, 6},
	} {
		c, s := pair()
		x.change(&c, &s)
		want := candidate{}
		if x.reason != plan.Done && x.reason != plan.Far {
			want = candidate{Index: 0, Start: x.start, From: aim(east, x.start)}
		}
		best := -1
		if x.reason == plan.Fit {
			want.To, best = aim(east, x.start+2), 0
		}
		list, reasons, got, e := desk(c).Look(s)
		if e != api.OK || !slices.Equal(list, []candidate{want}) || !slices.Equal(reasons, []int{x.reason}) || got != best {
			t.Errorf("%s: got %v, %v, %d, %d, not %v", x.name, list, reasons, got, e, want)
		}
	}
}

// P15.2: a slew of exactly the slots that are left is in time, and a second more is too much.
func TestJustInTime(t *testing.T) {
	c, s := pair()
	for extra, want := range map[int64]int{0: 5, 1: 6} {
		// The goal is that of slot 5 or of slot 6; 59 steps at full speed and one at rest take one slot.
		goal := aim(east, 5)
		s.At = to(goal.Az-59*slow-extra, goal.Alt)
		if _, steps, _ := slew.To(c.m, s.At, goal); steps != 60+int(extra) {
			t.Fatalf("it takes %d", steps)
		}
		if list, _, _, _ := desk(c).Look(s); list[0].Start != want {
			t.Errorf("%d: got %v", extra, list)
		}
	}
}

// P15.3: which of two candidates is better.
func TestChoice(t *testing.T) {
	for i, x := range []struct {
		change func(c *scene, s *state)
		best   int
	}{
		{func(c *scene, s *state) {}, 0},
		{func(c *scene, s *state) { s.Starts[0] = []int{3} }, 1},
		{func(c *scene, s *state) { s.Starts[1] = []int{3} }, 0},
		// Parts of the shares: 2 of 2 and 1 of 1, 3 of 2, 1 of 2.
		{func(c *scene, s *state) { c.p.Proposals[0].Share = 2; s.Starts = [][]int{{0, 3}, {3}, {}} }, 0},
		{func(c *scene, s *state) {
			c.p.Proposals[0].Share, c.p.Requests[1].Weight = 2, 2
			s.Starts = [][]int{{0, 3}, {3}, {}}
		}, 1},
		{func(c *scene, s *state) { c.p.Proposals[0].Share = 2; s.Starts = [][]int{{0, 1, 3}, {3}, {}} }, 1},
		{func(c *scene, s *state) {
			c.p.Proposals[0].Share, c.p.Requests[1].Weight = 2, 100
			s.Starts = [][]int{{3}, {3}, {}}
		}, 0},
		{func(c *scene, s *state) { c.p.Proposals[1].Share = 100; s.Starts = [][]int{{3}, {0, 1, 3}, {}} }, 1},
		{func(c *scene, s *state) { c.p.Proposals[1].Share = 100; s.Starts = [][]int{{}, {3}, {}} }, 0},
		// A visit of two slots counts twice.
		{func(c *scene, s *state) { c.p.Requests[0].Len = 2; s.Starts = [][]int{{2}, {3}, {}} }, 1},
		{func(c *scene, s *state) { c.p.Requests[0].Len = 2; s.Starts = [][]int{{2}, {1, 3}, {}} }, 0},
		// With a third request, for the proposal of the first one or of the second one.
		{func(c *scene, s *state) { s.Starts[2] = []int{3} }, 1},
		{func(c *scene, s *state) { c.p.Requests[2].Proposal = 1; s.Starts[2] = []int{3} }, 0},
		{func(c *scene, s *state) { c.p.Requests[2].Weight = 2 }, 2},
		{func(c *scene, s *state) { c.p.Requests[2].Weight = 2; s.Starts[0] = []int{3} }, 1},
		// Of one proposal, what was visited does not count.
		{func(c *scene, s *state) { c.p.Requests[1].Proposal = 0; s.Starts[0] = []int{3} }, 0},
		{func(c *scene, s *state) { c.p.Requests[1].Proposal, c.p.Requests[1].Weight = 0, 2 }, 1},
		// The weight counts more than the start, and the start more than the index.
		{func(c *scene, s *state) { c.p.Requests[0].At = east }, 1},
		{func(c *scene, s *state) { c.p.Requests[0].At, c.p.Requests[0].Weight = east, 2 }, 0},
		{func(c *scene, s *state) { c.p.Requests[0].At, c.p.Requests[1].At = east, west }, 2},
		{func(c *scene, s *state) {
			c.p.Requests[0].At, c.p.Requests[1].At, c.p.Requests[2].At = east, west, south
		}, 0},
		{func(c *scene, s *state) {
			c.p.Requests[0].At, c.p.Requests[1].At, c.p.Requests[2].At = south, west, east
		}, 1},
		// What is no candidate is not chosen.
		{func(c *scene, s *state) { c.n.Cloud[4], c.p.Requests[1].Cloud = 1, 1 }, 1},
		{func(c *scene, s *state) { c.p.Requests[0].Least = 5; s.Starts = [][]int{{0}, {1, 2, 3}, {}} }, 2},
		{func(c *scene, s *state) { c.n.Cloud[4] = 1 }, -1},
		{func(c *scene, s *state) { s.Slot = 12 }, -1},
	} {
		y := often(8, north)
		y.Proposal = 1
		c, s := asking(often(9, north), y, often(7, north)), state{Slot: 4, At: aim(north, 4), Starts: [][]int{{}, {}, {}}}
		x.change(&c, &s)
		if _, _, best, e := desk(c).Look(s); best != x.best || e != api.OK {
			t.Errorf("case %d: got %d, %d", i, best, e)
		}
	}
}

// P15.4: a programme without requests has no candidates.
func TestLookNothing(t *testing.T) {
	c := asking()
	if list, reasons, best, e := desk(c).Look(plan.Start(c.m, c.p)); len(list)+len(reasons) != 0 || best != -1 || e != api.OK {
		t.Errorf("got %v, %v, %d, %d", list, reasons, best, e)
	}
}

// P15.2, P15.3, P15.4: candidates, reasons and the choice in states of every sort.
func TestLook(t *testing.T) {
	var seen [7]int
	chosen := map[int]int{}
	walks(400, func(c scene, d plan.Desk, s state, _ func(lo, hi int64) int64) {
		want, reasons, best := c.look(s)
		list, got, i, e := d.Look(s)
		if !slices.Equal(list, want) || !slices.Equal(got, reasons) || i != best || e != api.OK {
			t.Fatalf("%v, %v: got %v, %v, %d, %d, want %v, %v, %d", c, s, list, got, i, e, want, reasons, best)
		}
		for _, reason := range got {
			seen[reason]++
		}
		chosen[best]++
	})
	if slices.Min(seen[:]) < 30 || chosen[0] < 50 || chosen[1] < 50 || chosen[2] < 50 {
		t.Error("few cases: ", seen, chosen)
	}
}

// P15.3, P15.4: the visits of the rule, in cases that can be followed by hand.
func TestKnownPlans(t *testing.T) {
	long := once(2, east)
	long.Len, long.Proposal = 8, 1
	thrice := often(1, north)
	thrice.Visits, thrice.Least, thrice.Most = 3, 3, 4
	cloudy := asking(once(1, north))
	for k := range 9 {
		cloudy.n.Cloud[k] = 1
	}
	for i, x := range []struct {
		c    scene
		want []visit
	}{
		{asking(), nil},
		{asking(once(1, north)), []visit{visited(1, 0, 0, 1)}},
		{asking(once(1, south)), []visit{visited(1, 3, 3, 1)}},
		{asking(often(1, north)), []visit{visited(1, 0, 0, 1), visited(1, 0, 1, 1), visited(1, 0, 2, 1), visited(1, 0, 3, 1)}},
		// The mount waits until the least gap has passed; it does not follow the field, so that it needs a slot to reach it again.
		{asking(thrice), []visit{visited(1, 0, 0, 1), visited(1, 1, 3, 1), visited(1, 1, 6, 1)}},
		{cloudy, []visit{visited(1, 1, 9, 1)}},
		// The other proposal has used less; then the field in the north is overdue.
		{asking(thrice, long), []visit{visited(1, 0, 0, 1), visited(2, 2, 3, 8)}},
		// No slot is left for the slew back.
		{asking(once(1, south), once(2, north)), []visit{visited(2, 0, 0, 1), visited(1, 3, 4, 1)}},
		{asking(once(3, south), once(4, east), once(5, west)), []visit{visited(4, 2, 2, 1), visited(3, 2, 5, 1), visited(5, 2, 8, 1)}},
	} {
		s := plan.Start(x.c.m, x.c.p)
		l, e := desk(x.c).From(s)
		if !slices.Equal(l, x.want) || e != api.OK {
			t.Errorf("case %d: got %v, %d", i, l, e)
		}
	}
}

// P15.4: the rule goes on from any state, and makes nothing at the end.
func TestFromStates(t *testing.T) {
	c := sample()
	d, s := desk(c), midway()
	want := []visit{visited(1, 3, 9, 1)}
	if l, e := d.From(s); !slices.Equal(l, want) || e != api.OK || !sameState(s, midway()) {
		t.Errorf("got %v, %d", l, e)
	}
	s.Slot = 12
	if l, e := d.From(s); len(l) != 0 || e != api.OK {
		t.Errorf("got %v, %d", l, e)
	}
	// The mount rests at the north since slot 6, and needs a slot to reach it again.
	s.Slot = 10
	if l, e := d.From(s); !slices.Equal(l, []visit{visited(2, 1, 11, 1)}) || e != api.OK {
		t.Errorf("got %v, %d", l, e)
	}
	s.Slot = 11
	if l, e := d.From(s); len(l) != 0 || e != api.OK {
		t.Errorf("got %v, %d", l, e)
	}
}

// P15.3, P15.4: From makes the visits of the rule, from states of every sort.
func TestFrom(t *testing.T) {
	made, waited := 0, 0
	walks(250, func(c scene, d plan.Desk, s state, draw func(lo, hi int64) int64) {
		if draw(0, 3) > 0 {
			return
		}
		want := c.from(s)
		l, e := d.From(s)
		if !slices.Equal(l, want) || e != api.OK {
			t.Fatalf("%v, %v: got %v, %d, want %v", c, s, l, e, want)
		}
		again, e := plan.From(c.n, c.m, c.p, s)
		if !slices.Equal(again, want) || e != api.OK {
			t.Fatalf("%v, %v: got %v, %d, want %v", c, s, again, e, want)
		}
		next := s.Slot
		for _, v := range l {
			if v.Start-v.Slew > next {
				waited++
			}
			next = v.Start + v.Len
		}
		made += len(l)
	})
	if made < 300 || waited < 60 {
		t.Errorf("%d visits, %d after waiting", made, waited)
	}
}
