package plan_test

import (
	"reflect"
	"slices"
	"testing"

	"spyglass/api"
	"spyglass/plan"
)

// P15.2: the reasons of the package.
func TestNumbers(t *testing.T) {
	if plan.Fit != 0 || plan.Done != 1 || plan.Far != 2 || plan.Early != 3 || plan.Overdue != 4 || plan.Shut != 5 || plan.Limit != 6 {
		t.Error("a reason has another number")
	}
}

// outcome is all that the functions of the package return for some arguments.
type outcome struct {
	allErr, stateErr, deskErr, fromErr, makeErr, afterErr, checkErr api.Errno
	lookErr, stepErr, earliestErr, onErr, pastErr                   api.Errno
	start, clone, after, past, next, later                          state
	used, reasons                                                   []int
	from, made, on                                                  []visit
	candidates                                                      []candidate
	best, worth, room                                               int
	earliest                                                        visit
}

// all calls every function and every method of the package.
func all(c scene, s state, l []visit, v visit, r request, i int) (o outcome) {
	o.allErr, o.stateErr = plan.CheckAll(c.n, c.m, c.p), plan.CheckState(c.n, c.m, c.p, s)
	o.start, o.clone, o.used = plan.Start(c.m, c.p), plan.Clone(s), plan.Used(c.p, s)
	o.from, o.fromErr = plan.From(c.n, c.m, c.p, s)
	o.made, o.makeErr = plan.Make(c.n, c.m, c.p)
	o.after, o.afterErr = plan.After(c.n, c.m, c.p, l)
	o.checkErr, o.worth, o.room = plan.Check(c.n, c.m, c.p, l), plan.Worth(c.p, l), plan.Room(c.n, r)
	d, e := plan.NewDesk(c.n, c.m, c.p)
	o.deskErr = e
	o.on, o.onErr = d.From(s)
	o.candidates, o.reasons, o.best, o.lookErr = d.Look(s)
	o.next, o.stepErr = d.Step(s, v)
	o.earliest, o.later, o.earliestErr = d.Earliest(s, i)
	o.past, o.pastErr = d.After(l)
	return o
}

// fault returns what is wrong with an outcome, whatever the arguments are.
func (o outcome) fault(c scene, s state) string {
	first := o.stateErr
	if o.allErr != api.OK {
		first = api.ErrState
	}
	switch {
	case o.deskErr != o.allErr || o.makeErr != o.allErr || o.allErr != api.OK && (o.fromErr != o.allErr || o.afterErr != o.allErr || o.pastErr != first) || o.checkErr != o.afterErr:
		return "an error"
	case o.onErr != first || o.lookErr != first || first != api.OK && (o.stepErr != first || o.earliestErr != first):
		return "an error of a method"
	case o.fromErr != api.OK && len(o.from) > 0 || o.makeErr != api.OK && len(o.made) > 0 || o.afterErr != api.OK && !isNone(o.after) || o.pastErr != api.OK && !isNone(o.past) || o.onErr != api.OK && len(o.on) > 0:
		return "a plan beside an error"
	case o.lookErr != api.OK && len(o.candidates)+len(o.reasons)+o.best != 0 || o.stepErr != api.OK && !isNone(o.next) || o.earliestErr != api.OK && (o.earliest != visit{} || !isNone(o.later)):
		return "a result beside an error"
	case o.allErr == api.OK && (!slices.Equal(o.on, o.from) || !sameState(o.past, o.after)):
		return "a method"
	case !sameState(o.clone, s) || len(o.start.Starts) != len(c.p.Requests) || o.start.At != c.m.Park:
		return "a state"
	case o.lookErr == api.OK && (len(o.candidates) != len(c.p.Requests) || len(o.reasons) != len(c.p.Requests) || o.best < -1 || o.best >= len(c.p.Requests)):
		return "Look"
	}
	return ""
}

// anything returns arguments that have figures in all their fields.
func anything(figures []int64, i, j, k int) (scene, state, visit) {
	pick := func(n int) int64 { return figures[(i+n*j+n*n*k)%len(figures)] }
	some := func(n int) axis { return axis{Min: pick(n), Max: pick(n + 1), Speed: pick(n + 2), Accel: pick(n + 3)} }
	c := scene{m: mount{Az: some(0), Alt: some(4), Park: to(pick(8), pick(9))}}
	c.n = night{
		Site: api.Site{Lat: api.Arc(pick(0)), Lon: api.Arc(pick(1))}, Spin: api.Rate{At: api.Tick(pick(2)), Angle: api.Arc(pick(3)), Arcs: api.Frac{Num: pick(4), Den: pick(5)}},
		Begin: api.Tick(pick(6)), Long: api.Tick(pick(7)), Slots: int(pick(8)), Sun: at(pick(9), pick(10), pick(11)), Moon: at(pick(12), pick(13), pick(14)), Dusk: api.Fix(pick(15)), Cloud: make([]int, i*7%70),
	}
	s := state{Slot: int(pick(1)), At: to(pick(2), pick(3)), Starts: make([][]int, (i+j)%5)}
	for n := range (j + k) % 20 {
		c.p.Requests = append(c.p.Requests, request{
			ID: int(pick(16 + n)), Proposal: int(pick(17)), At: at(pick(18), pick(19), pick(20)), Len: int(pick(21)), Visits: int(pick(22)), Least: int(pick(23)), Most: int(pick(24)), Height: api.Fix(pick(25)), Moon: api.Fix(pick(26)), Cloud: int(pick(27)), Weight: int(pick(28)),
		})
	}
	for n := range k % 9 {
		c.p.Proposals = append(c.p.Proposals, proposal{Name: string(rune('a' + n)), Share: int(pick(n))})
	}
	for n := range s.Starts {
		s.Starts[n] = []int{int(pick(n)), int(pick(n + 1))}
	}
	return c, s, visited(int(pick(4)), int(pick(5)), int(pick(6)), int(pick(7)))
}

// Z1, Z2, Z3: no arguments make a function panic, results depend on the arguments alone, and are zero values beside an error.
func TestAnyArguments(t *testing.T) {
	figures := []int64{least, least + 1, -limit - 1, -limit, -turn, -1, 0, 1, 2, 5, 64, 60_000, rim, 1 << 18, slow, fast, turn/2 + 1, turn, limit, limit + 1, most - 1, most}
	for i := range figures {
		for j, b := range figures {
			for k := range 8 {
				c, s, v := anything(figures, i, j, k)
				r, l := request{}, []visit{v, v}
				if k&1 == 1 {
					c.n = evening()
				}
				if k&2 == 2 {
					c.m = telescope()
				}
				if k&4 == 4 {
					c.p = sample().p
					r = c.p.Requests[i%3]
				}
				if k == 7 && i%2 == 0 {
					s = midway()
					v.Request, v.Len = 2, 1
				}
				o := all(c, s, l, v, r, int(b))
				if fault := o.fault(c, s); fault != "" {
					t.Fatalf("%v, %v, %v, %v, %d: %s is wrong: %v", c, s, v, r, b, fault, o)
				}
				if (i+j)%3 == 0 && !reflect.DeepEqual(o, all(c, s, l, v, r, int(b))) {
					t.Fatalf("%v, %v, %v, %v, %d: two results", c, s, v, r, b)
				}
			}
		}
	}
}

// spare returns arguments that have more elements behind the lengths of their slices.
func spare() asked {
	x := valid()
	x.c.n.Cloud = append(x.c.n.Cloud, 4, 9, -1)[:12]
	x.c.p.Requests = append(x.c.p.Requests, once(77, west), request{})[:3]
	x.c.p.Proposals = append(x.c.p.Proposals, proposal{Name: "z", Share: 7})[:2]
	x.s.Starts = append(x.s.Starts, []int{7}, nil)[:3]
	for i, list := range x.s.Starts {
		x.s.Starts[i] = append(append(make([]int, 0, 9), list...), 70, 80)[:len(list)]
	}
	x.l = append(x.l, visited(9, 9, 9, 9), visit{})[:2]
	return x
}

// whole returns arguments with what is behind the lengths of their slices.
func whole(x asked) asked {
	x.c.n.Cloud = x.c.n.Cloud[:cap(x.c.n.Cloud)]
	x.c.p.Requests, x.c.p.Proposals = x.c.p.Requests[:cap(x.c.p.Requests)], x.c.p.Proposals[:cap(x.c.p.Proposals)]
	starts := slices.Clone(x.s.Starts[:cap(x.s.Starts)])
	for i, list := range starts {
		starts[i] = list[:cap(list)]
	}
	x.s.Starts, x.l = starts, x.l[:cap(x.l)]
	return x
}

// Z2: arguments are left as they are, also behind the length of their slices.
func TestUnchanged(t *testing.T) {
	x, untouched := spare(), spare()
	for _, v := range []visit{visited(2, 1, 8, 1), visited(1, 3, 9, 1), {}} {
		if o := all(x.c, x.s, x.l, v, x.c.p.Requests[0], 2); len(o.made) == 0 || len(o.from) == 0 || o.afterErr != api.OK || !reflect.DeepEqual(whole(x), whole(untouched)) {
			t.Errorf("they became %v, not %v: %v", whole(x), whole(untouched), o)
		}
	}
}

// overwrite writes into all memory of a slice.
func overwrite[T any](l []T, x T) {
	l = l[:cap(l)]
	for i := range l {
		l[i] = x
	}
}

// wreck writes into all memory of a state.
func wreck(s state) {
	for _, list := range s.Starts {
		overwrite(list, 55)
	}
	overwrite(s.Starts, []int{44})
}

// Z2: results share no memory, also behind their length, with arguments, with each other, and with what a desk keeps.
func TestNewMemory(t *testing.T) {
	x, untouched := spare(), spare()
	d := desk(x.c)
	results := func() (o outcome) {
		o.start, o.clone, o.used = plan.Start(x.c.m, x.c.p), plan.Clone(x.s), plan.Used(x.c.p, x.s)
		o.on, _ = d.From(x.s)
		o.candidates, o.reasons, _, _ = d.Look(x.s)
		o.next, _ = d.Step(x.s, visited(2, 1, 8, 1))
		_, o.later, _ = d.Earliest(x.s, 2)
		o.past, _ = d.After(x.l)
		return o
	}
	first, other := results(), results()
	want := results()
	overwrite(first.used, 99)
	overwrite(first.reasons, 99)
	overwrite(first.on, visited(9, 9, 9, 9))
	overwrite(first.candidates, candidate{Index: 9})
	for _, s := range []state{first.start, first.clone, first.next, first.later, first.past} {
		wreck(s)
	}
	if o := results(); !reflect.DeepEqual(o, want) || !reflect.DeepEqual(other, want) || len(o.on) == 0 || isNone(o.later) || isNone(o.next) {
		t.Errorf("the results are %v and %v, not %v", o, other, want)
	}
	if !reflect.DeepEqual(whole(x), whole(untouched)) {
		t.Errorf("the arguments became %v", x)
	}
}

// Z2: the lists of a state share no memory with each other.
func TestListsApart(t *testing.T) {
	d := desk(sample())
	next, _ := d.Step(midway(), visited(2, 1, 8, 1))
	for i, list := range next.Starts {
		overwrite(list, -1)
		for j := i + 1; j < len(next.Starts); j++ {
			if slices.Contains(next.Starts[j], -1) {
				t.Errorf("lists %d and %d share memory", i, j)
			}
		}
	}
}

// Z4: nil and empty lists are the same.
func TestEmpty(t *testing.T) {
	c, b := asking(), asking()
	c.p.Proposals, c.p.Requests, b.p.Proposals, b.p.Requests = nil, nil, []proposal{}, []request{}
	x, y := all(c, state{}, nil, visit{}, request{}, 0), all(b, state{Starts: [][]int{}}, []visit{}, visit{}, request{}, 0)
	if !reflect.DeepEqual(x, y) || x.afterErr != api.OK || x.makeErr != api.OK || len(x.made) != 0 {
		t.Errorf("empty lists have other results than nil: %v, %v", x, y)
	}
	c.n.Cloud, b.n.Cloud = nil, []int{}
	if x, y := plan.CheckAll(c.n, c.m, c.p), plan.CheckAll(b.n, b.m, b.p); x != api.ErrForm || y != x {
		t.Errorf("got %d and %d", x, y)
	}
	d := desk(sample())
	s, u := state{At: aim(north, 0), Starts: make([][]int, 3)}, state{At: aim(north, 0), Starts: [][]int{{}, {}, {}}}
	l, _ := d.From(s)
	if again, _ := d.From(u); !slices.Equal(l, again) || len(l) == 0 {
		t.Errorf("got %v and %v", l, again)
	}
}
