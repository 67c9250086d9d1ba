package plan_test

import (
	"slices"
	"testing"

	"spyglass/api"
	"spyglass/plan"
	"spyglass/window"
)

// P15.3, P15.4, P15.7: the example of the chapter.
func TestExample(t *testing.T) {
	r := once(1, north)
	r.Len = 2
	c := asking(r)
	if l, e := plan.Make(c.n, c.m, c.p); !slices.Equal(l, []visit{{Request: 1, Slew: 0, Start: 0, Len: 2}}) || e != api.OK {
		t.Errorf("got %v, %d", l, e)
	}
}

// asked is the arguments of From, After and Check.
type asked struct {
	c scene
	s state
	l []visit
}

// valid returns arguments without errors: sample and the first visits of its plan.
func valid() asked {
	c := sample()
	return asked{c, midway(), []visit{visited(2, 0, 0, 1), visited(1, 3, 4, 1)}}
}

// P15.4: the errors of NewDesk, From and Make, and their order.
func TestFromErrors(t *testing.T) {
	faults := within(0, sceneFaults(), func(x *asked) *scene { return &x.c })
	testFaults(t, valid, faults, func(x asked) api.Errno {
		d, e := plan.NewDesk(x.c.n, x.c.m, x.c.p)
		if _, stateErr := d.From(x.s); e != api.OK && stateErr != api.ErrState {
			t.Errorf("%v: got a desk", x.c)
		}
		l, makeErr := plan.Make(x.c.n, x.c.m, x.c.p)
		if e != makeErr || e != api.OK && len(l) > 0 {
			t.Errorf("%v: got %v, %d", x.c, l, makeErr)
		}
		return e
	})
	faults = append(faults, within(12, stateFaults(), func(x *asked) *state { return &x.s })...)
	testFaults(t, valid, faults, func(x asked) api.Errno {
		l, e := plan.From(x.c.n, x.c.m, x.c.p, x.s)
		if e != api.OK && len(l) > 0 {
			t.Errorf("%v: got %v", x, l)
		}
		return e
	})
}

// P15.5: the errors of After and Check, and their order: the first visit that is not possible counts.
func TestAfterErrors(t *testing.T) {
	faults := append(within(0, sceneFaults(), func(x *asked) *scene { return &x.c }),
		fault[asked]{12, api.ErrLarge, func(x *asked) { x.l = append(x.l, make([]visit, 11)...) }},
		fault[asked]{12, api.ErrLarge, func(x *asked) { x.l = make([]visit, 1000) }},
		fault[asked]{13, api.ErrNone, func(x *asked) { x.l[0].Request = 9 }},
		fault[asked]{13, api.ErrForm, func(x *asked) { x.l[0].Len = 2 }},
		fault[asked]{13, api.ErrOrder, func(x *asked) { x.l[0].Slew = -1 }},
		fault[asked]{14, api.ErrOrder, func(x *asked) { x.l[1].Start = 0 }},
		fault[asked]{14, api.ErrFull, func(x *asked) { x.l[0], x.l[1] = visited(1, 3, 3, 1), visited(1, 0, 4, 1) }},
		fault[asked]{14, api.ErrShort, func(x *asked) { x.l[1].Slew = 2 }},
		fault[asked]{14, api.ErrBan, func(x *asked) { x.c.n.Cloud[4] = 1 }},
		fault[asked]{15, api.ErrNone, func(x *asked) { x.l = append(x.l, visit{}) }})
	testFaults(t, valid, faults, func(x asked) api.Errno {
		s, e := plan.After(x.c.n, x.c.m, x.c.p, x.l)
		if e != api.OK && !isNone(s) {
			t.Errorf("%v: got %v", x, s)
		}
		if checkErr := plan.Check(x.c.n, x.c.m, x.c.p, x.l); checkErr != e {
			t.Errorf("%v: got %d and %d", x, checkErr, e)
		}
		if plan.CheckAll(x.c.n, x.c.m, x.c.p) == api.OK {
			if again, deskErr := desk(x.c).After(x.l); deskErr != e || !sameState(again, s) {
				t.Errorf("%v: got %v, %d", x, again, deskErr)
			}
		}
		return e
	})
}

// P15.5: the state after some visits, also after as many as there are slots.
func TestAfter(t *testing.T) {
	c, l := sample(), valid().l
	// The field in the south has gone a little more than half a turn, so that it is nearer on the other way.
	there := to(aim(south, 5).Az-turn, aim(south, 5).Alt)
	for i, want := range []state{
		{Slot: 0, At: aim(north, 0), Starts: [][]int{{}, {}, {}}},
		{Slot: 1, At: aim(north, 1), Starts: [][]int{{}, {}, {0}}},
		{Slot: 5, At: there, Starts: [][]int{{}, {4}, {0}}},
	} {
		if s, e := plan.After(c.n, c.m, c.p, l[:i]); !sameState(s, want) || e != api.OK {
			t.Errorf("%v: got %v, %d", l[:i], s, e)
		}
		if e := plan.Check(c.n, c.m, c.p, l[:i]); e != api.OK {
			t.Errorf("%v: got %d", l[:i], e)
		}
	}
	full := asking(often(0, north), often(1, north), often(2, north), once(4, north))
	full.p.Requests[0].ID = 3
	var all []visit
	for k := range 13 {
		all = append(all, visited(k/4+1, 0, k, 1))
	}
	all[12].Start = 11
	if s, e := plan.After(full.n, full.m, full.p, all[:12]); s.Slot != 12 || e != api.OK {
		t.Errorf("got %v, %d", s, e)
	}
	if e := plan.Check(full.n, full.m, full.p, all); e != api.ErrLarge {
		t.Errorf("got %d", e)
	}
}

// P15.4: a desk keeps copies of its arguments, whatever happens to them.
func TestDeskCopies(t *testing.T) {
	c, untouched := sample(), sample()
	d := desk(c)
	for k := range c.n.Cloud {
		c.n.Cloud[k] = 9
	}
	for i := range c.p.Requests {
		c.p.Requests[i] = once(70+i, west)
	}
	for i := range c.p.Proposals {
		c.p.Proposals[i] = proposal{Name: "z", Share: 50}
	}
	s := plan.Start(c.m, untouched.p)
	l, e := d.From(s)
	if want := untouched.from(s); !slices.Equal(l, want) || e != api.OK || len(l) < 3 {
		t.Errorf("got %v, %d, not %v", l, e, want)
	}
	if after, e := d.After(l); e != api.OK || after.Slot == 0 {
		t.Errorf("got %v, %d", after, e)
	}
}

// P15.4: all methods of the zero Desk return ErrState, before everything else.
func TestZeroDesk(t *testing.T) {
	for _, d := range []plan.Desk{{}, desk(scene{}), desk(scene{n: evening(), m: telescope(), p: programme{Requests: make([]request, 1)}})} {
		for _, s := range []state{{}, midway(), {Slot: -1}, {Slot: most, At: to(least, most), Starts: make([][]int, 99)}} {
			l, fromErr := d.From(s)
			candidates, reasons, best, lookErr := d.Look(s)
			after, stepErr := d.Step(s, visited(1, 0, 0, 1))
			v, next, earliestErr := d.Earliest(s, 0)
			if fromErr != api.ErrState || lookErr != api.ErrState || stepErr != api.ErrState || earliestErr != api.ErrState {
				t.Errorf("got %d, %d, %d, %d", fromErr, lookErr, stepErr, earliestErr)
			}
			if len(l)+len(candidates)+len(reasons)+best != 0 || v != (visit{}) || !isNone(after) || !isNone(next) {
				t.Errorf("got %v, %v, %v, %d, %v, %v, %v", l, candidates, reasons, best, after, v, next)
			}
		}
		for _, count := range []int{0, 1, 5, 100} {
			if s, e := d.After(make([]visit, count)); e != api.ErrState || !isNone(s) {
				t.Errorf("got %v, %d", s, e)
			}
		}
	}
}

// P15.4: the errors of states come first, in all methods that take one.
func TestStateErrors(t *testing.T) {
	d := desk(sample())
	testFaults(t, midway, stateFaults(), func(s state) api.Errno {
		l, e := d.From(s)
		candidates, reasons, best, lookErr := d.Look(s)
		if e != api.OK && len(l)+len(candidates)+len(reasons)+best != 0 {
			t.Errorf("%v: got %v, %v, %v, %d", s, l, candidates, reasons, best)
		}
		v, after, earliestErr := d.Earliest(s, 1)
		if e != api.OK && (v != visit{} || !isNone(after)) {
			t.Errorf("%v: got %v, %v", s, v, after)
		}
		_, _, indexErr := d.Earliest(s, 3)
		if lookErr != e || earliestErr != e || e != api.OK && indexErr != e || e == api.OK && indexErr != api.ErrNone {
			t.Errorf("%v: got %d, %d, %d, %d", s, e, lookErr, earliestErr, indexErr)
		}
		return e
	})
}

// P15.6: the weights of the requests that are visited, whether or not the visits are possible.
func TestWorth(t *testing.T) {
	p := sample().p
	p.Requests[0].Weight, p.Requests[2].Weight = 100, 30
	for _, x := range []struct {
		l    []visit
		want int
	}{
		{nil, 0}, {valid().l, 35}, {[]visit{{Request: 3}}, 100}, {[]visit{{Request: 3}, {Request: 3}, {Request: 1}}, 205}, {[]visit{{Request: 9}}, 0}, {[]visit{{Request: 9}, {Request: 2}, {Request: -1}, {}}, 30},
		{[]visit{{Request: most}, {Request: least, Slew: least, Start: most, Len: 7}, {Request: 1, Slew: least, Start: most, Len: 7}}, 5}, {make([]visit, 1000), 0},
	} {
		if sum := plan.Worth(p, x.l); sum != x.want {
			t.Errorf("%v: got %d, not %d", x.l, sum, x.want)
		}
	}
	if plan.Worth(programme{}, valid().l) != 0 {
		t.Error("an empty programme has no weights")
	}
	for _, f := range sceneFaults() {
		c := sample()
		f.make(&c)
		if sum := plan.Worth(c.p, valid().l); (sum == 0) != (f.rank >= 8) {
			t.Errorf("%v: got %d", c.p, sum)
		}
	}
}

// P15.6: how many visits fit into the open slots.
func TestRoom(t *testing.T) {
	for _, x := range []struct {
		clouds        []int
		length, count int
		want          int
	}{
		{[]int{0}, 1, 1, 1}, {[]int{1}, 1, 1, 0}, {[]int{0, 0}, 1, 4, 2}, {[]int{0, 0}, 2, 4, 1}, {[]int{0, 0}, 3, 4, 0}, {[]int{0, 0, 0}, 2, 4, 1}, {[]int{0, 0, 0, 0}, 2, 4, 2}, {[]int{0, 0, 0, 0}, 2, 1, 1},
		{[]int{0, 1, 0}, 1, 4, 2}, {[]int{0, 1, 0}, 2, 4, 0}, {[]int{0, 0, 0, 1, 0, 0, 0}, 2, 4, 2}, {[]int{0, 0, 0, 1, 0, 0, 0}, 3, 4, 2}, {[]int{0, 0, 0, 1, 0, 0, 0}, 1, 3, 3}, {[]int{0, 0, 0, 1, 0, 0, 0}, 1, 4, 4},
		{[]int{0, 0, 0, 0, 1, 0, 0}, 2, 4, 3}, {make([]int, 64), 8, 4, 4}, {make([]int, 64), 1, 1, 1}, {make([]int, 24), 8, 4, 3}, {make([]int, 23), 8, 4, 2},
	} {
		n, r := evening(), once(1, north)
		n.Slots, n.Cloud, r.Len = len(x.clouds), x.clouds, x.length
		if x.count > 1 {
			r.Visits, r.Least, r.Most = x.count, 1, 64
		}
		if got := plan.Room(n, r); got != x.want {
			t.Errorf("%v: got %d", x, got)
		}
	}
}

// P15.6: there is no room in a night, or for a request, that is not valid.
func TestRoomErrors(t *testing.T) {
	for _, f := range sceneFaults() {
		c := sample()
		f.make(&c)
		_, e := window.Of(c.n, c.p.Requests[0])
		if room := plan.Room(c.n, c.p.Requests[0]); (room == 0) != (e != api.OK) {
			t.Errorf("%v: got %d", c, room)
		}
	}
	for _, change := range []func(r *request){
		func(r *request) { r.Len = 0 }, func(r *request) { r.Len = -1 }, func(r *request) { r.Len = 9 }, func(r *request) { r.Visits = 5 }, func(r *request) { r.Visits = 0 }, func(r *request) { r.Visits = -1 }, func(r *request) { r.ID = 0 }, func(r *request) { r.Most = 0 },
	} {
		r := often(1, north)
		change(&r)
		if room := plan.Room(evening(), r); room != 0 {
			t.Errorf("%v: got %d", r, room)
		}
	}
}

// counts returns how many visits of each request there are in a plan, by ID.
func counts(l []visit) map[int]int {
	found := map[int]int{}
	for _, v := range l {
		found[v.Request]++
	}
	return found
}

// testRooms checks that no request has more visits in a plan than there is room for.
func testRooms(t *testing.T, c scene, l []visit) {
	t.Helper()
	found := counts(l)
	for _, r := range c.p.Requests {
		if room := plan.Room(c.n, r); found[r.ID] > room || room > r.Visits {
			t.Fatalf("%v, %v: room for %d of %d", c, l, room, r.ID)
		}
	}
}

// P15.3, P15.7: plans of the rule are possible, are not too long, and fit into the rooms.
func TestMake(t *testing.T) {
	made := 0
	for i := range uint64(600) {
		c := drawnScene(draws(i << 12))
		l, e := plan.Make(c.n, c.m, c.p)
		if e != api.OK || !slices.Equal(l, c.from(plan.Start(c.m, c.p))) {
			t.Fatalf("%v: got %v, %d", c, l, e)
		}
		if e := plan.Check(c.n, c.m, c.p, l); e != api.OK || len(l) > c.n.Slots {
			t.Fatalf("%v: %v has %d", c, l, e)
		}
		testRooms(t, c, l)
		made += len(l)
	}
	if made < 800 {
		t.Errorf("%d visits", made)
	}
}

// P15.5, P15.7: other plans that are possible fit into the rooms, too, and go through the states of Step.
func TestOtherPlans(t *testing.T) {
	full := 0
	for i := range uint64(400) {
		draw := draws(i << 12)
		c := drawnScene(draw)
		d, s := desk(c), plan.Start(c.m, c.p)
		var l []visit
		for range 10 * len(c.p.Requests) {
			v, after, e := d.Earliest(s, int(draw(0, int64(len(c.p.Requests)-1))))
			if e == api.OK {
				l, s = append(l, v), after
			}
		}
		if after, e := plan.After(c.n, c.m, c.p, l); e != api.OK || !sameState(after, s) || len(l) > c.n.Slots {
			t.Fatalf("%v, %v: got %v, %d", c, l, after, e)
		}
		testRooms(t, c, l)
		for _, r := range c.p.Requests {
			if room := plan.Room(c.n, r); room > 0 && counts(l)[r.ID] == room {
				full++
			}
		}
	}
	if full < 150 {
		t.Errorf("%d rooms are full", full)
	}
}
