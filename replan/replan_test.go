package replan_test

import (
	"slices"
	"testing"

	"spyglass/api"
	"spyglass/plan"
	"spyglass/replan"
)

// P16.1: the example of the chapter.
func TestExample(t *testing.T) {
	l := []visit{{Request: 1, Start: 0, Len: 2}, {Request: 2, Slew: 1, Start: 3, Len: 2}}
	if k := replan.Kept(l, 4); k != 1 {
		t.Errorf("got %d", k)
	}
	if v, found := replan.UnderWay(l, 4); v != l[1] || !found {
		t.Errorf("got %v, %v", v, found)
	}
}

// P16.1: visits that end by a slot just so, or not, and those that are under way just so, or not.
func TestKept(t *testing.T) {
	early, late := visited(1, 0, 0, 2), visited(2, 2, 5, 3)
	for _, x := range []struct {
		l        []visit
		at, kept int
		underWay bool
	}{
		{nil, 0, 0, false}, {nil, most, 0, false}, {nil, least, 0, false},
		{[]visit{early, late}, least, 0, false}, {[]visit{early, late}, -1, 0, false}, {[]visit{early, late}, 0, 0, false}, {[]visit{early, late}, 1, 0, true},
		{[]visit{early, late}, 2, 1, false}, {[]visit{early, late}, 3, 1, false}, {[]visit{early, late}, 4, 1, true}, {[]visit{early, late}, 5, 1, true}, {[]visit{early, late}, 7, 1, true},
		{[]visit{early, late}, 8, 2, false}, {[]visit{early, late}, 64, 2, false}, {[]visit{early, late}, most, 2, false},
		// The first visit that does not end by the slot counts, also if those after it do.
		{[]visit{late, early}, 4, 0, true}, {[]visit{late, early}, 3, 0, false}, {[]visit{late, early}, 8, 2, false}, {[]visit{early, late, early}, 6, 1, true}, {[]visit{early, early, early}, 2, 3, false},
		// A slew may be longer than the time before the visit.
		{[]visit{visited(1, 7, 5, 1)}, -2, 0, false}, {[]visit{visited(1, 7, 5, 1)}, -1, 0, true}, {[]visit{visited(1, 64, 0, 64)}, -64, 0, false}, {[]visit{visited(1, 64, 0, 64)}, -63, 0, true}, {[]visit{visited(1, 64, 0, 64)}, 63, 0, true}, {[]visit{visited(1, 64, 0, 64)}, 64, 1, false},
		{[]visit{visited(1, 0, 64, 64)}, 64, 0, false}, {[]visit{visited(1, 0, 64, 64)}, 65, 0, true}, {[]visit{visited(1, 0, 64, 64)}, 127, 0, true}, {[]visit{visited(1, 0, 64, 64)}, 128, 1, false},
		// A visit may have no slots, and no request.
		{[]visit{{}}, 0, 1, false}, {[]visit{{}}, -1, 0, false}, {[]visit{visited(0, 1, 3, 0)}, 2, 0, false}, {[]visit{visited(least, 2, 3, 0)}, 2, 0, true}, {[]visit{visited(most, 0, 3, 0)}, 3, 1, false},
	} {
		want := visit{}
		if x.underWay {
			want = x.l[x.kept]
		}
		k := replan.Kept(x.l, x.at)
		v, found := replan.UnderWay(x.l, x.at)
		if k != x.kept || v != want || found != x.underWay {
			t.Errorf("%v at %d: got %d, %v, %v", x.l, x.at, k, v, found)
		}
	}
}

// P16.1: a visit that is not regular never ends, and is never under way.
func TestIrregular(t *testing.T) {
	for _, k := range []int{least, least + 1, -65, -64, -1, 65, 1 << 62, most - 1, most} {
		for _, v := range []visit{visited(1, k, 3, 2), visited(1, 1, k, 2), visited(1, 1, 3, k), visited(1, k, k, k), visited(1, k, k, 1), visited(1, 0, k, k), visited(1, 0, k, -k), visited(1, -k, k, 0)} {
			for _, at := range []int{least, -1, 0, 3, 4, 5, 64, 200, most} {
				if kept := replan.Kept([]visit{v}, at); kept != 0 {
					t.Errorf("%v at %d: got %d", v, at, kept)
				}
				l := []visit{visited(5, 0, 0, 1), v, visited(6, 1, 5, 1)}
				kept := replan.Kept(l, at)
				w, found := replan.UnderWay(l, at)
				if at > 0 && (kept != 1 || w != (visit{}) || found) {
					t.Errorf("%v at %d: got %d, %v, %v", l, at, kept, w, found)
				}
			}
		}
	}
}

// call is the arguments of State and of Again.
type call struct {
	c  scene
	l  []visit
	at int
}

// P16.2: states, in cases that can be followed by hand.
func TestKnownStates(t *testing.T) {
	l := planned()
	none, one, two := [][]int{{}, {}, {}}, [][]int{{0}, {}, {}}, [][]int{{0}, {4}, {}}
	for i, x := range []struct {
		l    []visit
		at   int
		want state
	}{
		{nil, 0, state{Slot: 0, At: aim(north, 0), Starts: none}},
		{nil, 12, state{Slot: 12, At: aim(north, 0), Starts: none}},
		{l, 0, state{Slot: 0, At: aim(north, 0), Starts: none}},
		// A visit is broken off: it does not count, but the mount has followed its field.
		{l, 1, state{Slot: 1, At: aim(north, 1), Starts: none}},
		{l, 2, state{Slot: 2, At: aim(north, 2), Starts: one}},
		// A slew is finished.
		{l, 3, state{Slot: 4, At: aim(east, 4), Starts: one}},
		{l, 4, state{Slot: 4, At: aim(east, 4), Starts: one}},
		{l, 5, state{Slot: 5, At: aim(east, 5), Starts: one}},
		{l, 6, state{Slot: 6, At: aim(east, 6), Starts: one}},
		{l, 7, state{Slot: 7, At: aim(east, 7), Starts: two}},
		{l, 8, state{Slot: 9, At: aim(south, 9), Starts: two}},
		{l, 10, state{Slot: 10, At: aim(south, 10), Starts: [][]int{{0}, {4}, {9}}}},
		{l, 12, state{Slot: 12, At: aim(south, 11), Starts: [][]int{{0}, {4}, {9, 10}}}},
		// The mount waits in the pose that it has after the last visit.
		{l[:1], 5, state{Slot: 5, At: aim(north, 2), Starts: one}},
		{l[:2], 12, state{Slot: 12, At: aim(east, 7), Starts: two}},
		{[]visit{l[0], visited(7, 2, 6, 3)}, 4, state{Slot: 4, At: aim(north, 2), Starts: one}},
		// The visit under way need not be possible: no slew of so few slots, another length, beyond the end of the night, begun before the one before it had ended.
		{[]visit{visited(7, 0, 0, 3)}, 1, state{Slot: 1, At: aim(east, 1), Starts: none}},
		{[]visit{l[0], visited(7, 1, 4, 8)}, 8, state{Slot: 8, At: aim(east, 8), Starts: one}},
		{[]visit{visited(7, 3, 10, 9)}, 8, state{Slot: 10, At: aim(east, 10), Starts: none}},
		{[]visit{visited(7, 3, 10, 9)}, 12, state{Slot: 12, At: aim(east, 12), Starts: none}},
		{[]visit{visited(7, 3, 12, 9)}, 10, state{Slot: 12, At: aim(east, 12), Starts: none}},
		{[]visit{visited(7, 3, 12, 9)}, 12, state{Slot: 12, At: aim(east, 12), Starts: none}},
		{[]visit{visited(7, 64, 5, 9)}, 0, state{Slot: 5, At: aim(east, 5), Starts: none}},
		{[]visit{l[0], visited(7, 0, 1, 5)}, 3, state{Slot: 3, At: aim(east, 3), Starts: one}},
		{[]visit{l[0], visited(2, 1, 5, 2)}, 6, state{Slot: 6, At: aim(north, 6), Starts: one}},
		// What comes after it does not count, nor does what comes after a visit that is not regular.
		{[]visit{l[0], l[1], visited(9, -1, most, least)}, 5, state{Slot: 5, At: aim(east, 5), Starts: one}},
		{[]visit{l[0], visited(7, -1, 4, 3), visited(9, 0, 0, 0)}, 5, state{Slot: 5, At: aim(north, 2), Starts: one}},
		{[]visit{l[0], visited(9, 0, 65, 1)}, 12, state{Slot: 12, At: aim(north, 2), Starts: one}},
		{[]visit{l[0], visited(9, 0, 64, 1)}, 12, state{Slot: 12, At: aim(north, 2), Starts: one}},
	} {
		c := sample()
		if s, e := replan.State(c.n, c.m, c.p, x.l, x.at); !sameState(s, x.want) || e != api.OK {
			t.Errorf("case %d: got %v, %d, not %v", i, s, e, x.want)
		}
	}
}

// P16.2: clouds do not matter for the visit that is under way, but they do for those that were made.
func TestCloudedStates(t *testing.T) {
	c := sample()
	c.n.Cloud = slices.Repeat([]int{4}, 12)
	c.n.Cloud[0], c.n.Cloud[1] = 0, 0
	if s, e := replan.State(c.n, c.m, c.p, planned(), 5); s.At != aim(east, 5) || e != api.OK {
		t.Errorf("got %v, %d", s, e)
	}
	if s, e := replan.State(c.n, c.m, c.p, planned(), 7); !sameState(s, state{}) || e != api.ErrBan {
		t.Errorf("got %v, %d", s, e)
	}
}

// stateFaults returns changes after which State has an error for the plan of sample at slot 9, where the third visit is about to begin.
func stateFaults() []fault[call] {
	list := []fault[call]{
		// Of the visits that were made, the first one that is not possible counts.
		{7, api.ErrNone, func(x *call) { x.l[0].Request = 1 }},
		{7, api.ErrForm, func(x *call) { x.l[0].Len = 1 }},
		{7, api.ErrForm, func(x *call) { x.l[0].Len = 0 }},
		{7, api.ErrOrder, func(x *call) { x.l[0].Slew = 1 }},
		{7, api.ErrBan, func(x *call) { x.c.n.Cloud[1] = 1 }},
		{8, api.ErrOrder, func(x *call) { x.l[1].Start = 1 }},
		{8, api.ErrFull, func(x *call) { x.l[1] = visited(2, 1, 3, 2) }},
		{8, api.ErrShort, func(x *call) { x.l[1].Slew = 1 }},
		{8, api.ErrRange, func(x *call) { x.c.m.Az.Max = aim(east, 6).Az }},
		// The visit that is under way.
		{9, api.ErrNone, func(x *call) { x.l[2].Request = 1 }},
		{10, api.ErrRange, func(x *call) { x.l[2] = visited(5, 64, 13, 1) }},
		{10, api.ErrRange, func(x *call) { x.l[2] = visited(5, 64, 64, 64) }},
		{11, api.ErrRange, func(x *call) { x.c.m.Az.Min, x.c.m.Az.Max = 0, aim(east, 8).Az }},
		{11, api.ErrRange, func(x *call) { x.c.m.Az.Min, x.c.m.Az.Max = 0, aim(south, 9).Az-1 }},
	}
	for _, k := range []int{least, -1, 13, most} {
		list = append(list, fault[call]{6, api.ErrRange, func(x *call) { x.at = k }})
	}
	return append(list, within(0, sceneFaults(), func(x *call) *scene { return &x.c })...)
}

// P16.2, P16.3: each error of State and of Again, and their order.
func TestStateErrors(t *testing.T) {
	valid := func() call { return call{sample(), planned(), 9} }
	testFaults(t, valid, stateFaults(), func(x call) api.Errno {
		s, e := replan.State(x.c.n, x.c.m, x.c.p, x.l, x.at)
		l, againErr := replan.Again(x.c.n, x.c.m, x.c.p, x.l, x.at)
		if e != againErr || e != api.OK && (!sameState(s, state{}) || len(l) > 0) {
			t.Errorf("%v: got %v, %d, and %v, %d", x, s, e, l, againErr)
		}
		return e
	})
}

// P16.2: the mount cannot follow the visit under way, though it reaches its field: the cable ends where the field is at the beginning of slot 10.
func TestBrokenOffTooLate(t *testing.T) {
	c, l := sample(), planned()
	l[2].Len = 3
	c.m.Az.Min, c.m.Az.Max = 0, aim(south, 10).Az
	for at, want := range map[int]api.Errno{8: api.OK, 9: api.OK, 10: api.OK, 11: api.ErrRange} {
		s, e := replan.State(c.n, c.m, c.p, l, at)
		if e != want || e == api.OK && s.At != aim(south, max(9, at)) || e != api.OK && !sameState(s, state{}) {
			t.Errorf("%d: got %v, %d", at, s, e)
		}
	}
}

// P16.3: plans that are made anew, in cases that can be followed by hand.
func TestKnownAgain(t *testing.T) {
	l := planned()
	cloudy := make([]int, 12)
	cloudy[4], cloudy[5] = 1, 1
	for i, x := range []struct {
		clouds []int
		l      []visit
		at     int
		want   []visit
	}{
		{nil, l, 0, l}, {nil, l, 2, l}, {nil, l, 7, l}, {nil, l, 10, l}, {nil, l, 11, l}, {nil, l, 12, l},
		// Nothing was planned.
		{nil, nil, 0, l},
		{nil, nil, 2, []visit{visited(2, 1, 3, 2), visited(7, 2, 7, 3)}},
		{nil, nil, 12, nil},
		// The slew to the east has been finished.
		{nil, l, 3, []visit{l[0], visited(7, 0, 4, 3), l[2], l[3]}},
		{nil, l, 4, []visit{l[0], visited(7, 0, 4, 3), l[2], l[3]}},
		// The visit in the east is begun again.
		{nil, l, 5, []visit{l[0], visited(7, 0, 5, 3), visited(5, 2, 10, 1), visited(5, 0, 11, 1)}},
		{nil, l, 6, []visit{l[0], visited(7, 0, 6, 3), visited(5, 2, 11, 1)}},
		// It is given up for the south, since it is closed.
		{cloudy, l, 4, []visit{l[0], visited(5, 2, 6, 1), visited(7, 2, 9, 3)}},
		{cloudy, l, 2, []visit{l[0], visited(5, 3, 5, 1), visited(7, 2, 8, 3)}},
	} {
		c := sample()
		if x.clouds != nil {
			c.n.Cloud = x.clouds
			c.p.Requests[2].Cloud = 1
		}
		if got, e := replan.Again(c.n, c.m, c.p, x.l, x.at); !slices.Equal(got, x.want) || e != api.OK {
			t.Errorf("case %d: got %v, %d, not %v", i, got, e, x.want)
		}
	}
}

// drawnPlan returns a list of visits for a valid scene: the plan of this night or of one with other clouds, as it is or a little changed.
func (c scene) drawnPlan(draw func(lo, hi int64) int64) []visit {
	n := c.n
	if draw(0, 1) == 0 {
		n.Cloud = drawnClouds(draw, n.Slots)
	}
	l, _ := plan.Make(n, c.m, c.p)
	if len(l) == 0 || draw(0, 1) == 0 {
		return l
	}
	v := &l[draw(0, int64(len(l)-1))]
	switch draw(0, 5) {
	case 0:
		v.Slew += int(draw(-2, 2))
	case 1:
		v.Start += int(draw(-2, 2))
	case 2:
		v.Len += int(draw(-1, 1))
	case 3:
		v.Request += int(draw(-9, 9))
	case 4:
		*v = l[draw(0, int64(len(l)-1))]
	default:
		*v = visited(int(draw(1, 60)), int(draw(-1, 65)), int(draw(-1, 65)), int(draw(-1, 65)))
	}
	return l
}

// P16.1, P16.2, P16.3: states and plans that are made anew, for plans of every sort; without a visit under way they are possible, and nothing changes in a plan of the rule.
func TestAgain(t *testing.T) {
	seen := map[api.Errno]int{}
	possible, unchanged, finished, broken := 0, 0, 0, 0
	for i := range uint64(300) {
		draw := draws(i)
		c := drawnScene(draw)
		d, _ := plan.NewDesk(c.n, c.m, c.p)
		ruled, _ := d.From(plan.Start(c.m, c.p))
		for range 5 {
			l, at := c.drawnPlan(draw), int(draw(-1, int64(c.n.Slots+1)))
			want, wantErr := c.state(plan.Start(c.m, c.p), l, at)
			if s, e := replan.State(c.n, c.m, c.p, l, at); !sameState(s, want) || e != wantErr {
				t.Fatalf("%v, %v, %d: got %v, %d, want %v, %d", c, l, at, s, e, want, wantErr)
			}
			again, _ := c.again(l, at)
			got, e := replan.Again(c.n, c.m, c.p, l, at)
			if !slices.Equal(got, again) || e != wantErr {
				t.Fatalf("%v, %v, %d: got %v, %d, want %v, %d", c, l, at, got, e, again, wantErr)
			}
			seen[e]++
			v, found := replan.UnderWay(l, at)
			switch {
			case e != api.OK:
				continue
			case found && v.Start >= at:
				finished++
			case found:
				broken++
			default:
				_, checkErr := d.After(got)
				isRuled := slices.Equal(l, ruled)
				if checkErr != api.OK || isRuled && !slices.Equal(got, l) {
					t.Fatalf("%v, %v, %d: got %v, which has %d", c, l, at, got, checkErr)
				}
				possible++
				if isRuled && len(l) > 1 {
					unchanged++
				}
			}
		}
	}
	for _, e := range []api.Errno{api.OK, api.ErrNone, api.ErrForm, api.ErrOrder, api.ErrBan, api.ErrRange, api.ErrShort} {
		if seen[e] < 10 {
			t.Errorf("few cases of %d: %v", e, seen)
		}
	}
	if possible < 500 || unchanged < 150 || finished < 120 || broken < 150 {
		t.Errorf("%d were possible, %d unchanged, %d finished, %d broken off", possible, unchanged, finished, broken)
	}
}
