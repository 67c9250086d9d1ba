package replan_test

import (
	"reflect"
	"slices"
	"testing"

	"spyglass/api"
	"spyglass/plan"
	"spyglass/replan"
)

// asked is arguments for all functions of the package.
type asked struct {
	c    scene
	l    []visit
	at   int
	x    news
	list []news
}

// outcome is all that the functions of the package return for some arguments.
type outcome struct {
	kept                                    int
	underWay                                visit
	found                                   bool
	state                                   state
	again, followed                         []visit
	came                                    night
	stateErr, againErr, checkErr, followErr api.Errno
}

// all calls every function of the package.
func all(a asked) (o outcome) {
	o.kept = replan.Kept(a.l, a.at)
	o.underWay, o.found = replan.UnderWay(a.l, a.at)
	o.state, o.stateErr = replan.State(a.c.n, a.c.m, a.c.p, a.l, a.at)
	o.again, o.againErr = replan.Again(a.c.n, a.c.m, a.c.p, a.l, a.at)
	o.checkErr = replan.Check(a.c.n, a.c.p, a.x)
	o.followed, o.came, o.followErr = replan.Follow(a.c.n, a.c.m, a.c.p, a.list)
	return o
}

// fault returns what is wrong with an outcome, whatever the arguments are.
func (o outcome) fault(a asked) string {
	e := plan.CheckAll(a.c.n, a.c.m, a.c.p)
	switch {
	case o.kept < 0 || o.kept > len(a.l) || !o.found && o.underWay != visit{}:
		return "a visit"
	case o.stateErr != o.againErr || e != api.OK && (o.stateErr != e || o.followErr != e):
		return "an error"
	case o.stateErr != api.OK && (!sameState(o.state, state{}) || len(o.again) > 0):
		return "a state or a plan beside an error"
	case o.followErr != api.OK && (len(o.followed) > 0 || !sameNight(o.came, night{})):
		return "a night beside an error"
	case o.stateErr == api.OK && plan.CheckState(a.c.n, a.c.m, a.c.p, o.state) != api.OK:
		return "a state"
	case e == api.OK && len(a.list) > 0 && o.checkErr != api.OK && o.followErr != o.checkErr:
		return "an error of news"
	}
	return ""
}

// anything returns arguments that have figures in many of their fields.
func anything(figures []int64, i, j, k int) (a asked) {
	pick := func(n int) int64 { return figures[(i+n*j+n*n*k)%len(figures)] }
	number := func(n int) int { return int(pick(n)) }
	a.c = sample()
	if k&1 == 0 {
		a.c.n.Slots, a.c.n.Long, a.c.n.Begin, a.c.n.Cloud = number(0), api.Tick(pick(1)), api.Tick(pick(2)), make([]int, i%14)
	}
	if k&2 == 0 {
		a.c.m.Az, a.c.m.Park = axis{Min: pick(3), Max: pick(4), Speed: pick(5), Accel: pick(6)}, pose{Az: pick(7), Alt: pick(8)}
	}
	if k&4 == 0 {
		r := &a.c.p.Requests[j%3]
		r.ID, r.Proposal, r.Len, r.Visits, r.Least, r.Most = number(9), number(10), number(11), number(12), number(13), number(14)
	}
	a.at = number(15)
	a.x = news{At: number(16), Cloud: make([]int, j%14), Drop: []int{number(17), number(18)}}
	if k == 7 {
		a.at, a.x = a.at&15, from(i%13, 2, 5)
	}
	a.l = []visit{visited(number(19), number(20), number(21), number(22)), visited(2, number(23), number(24), 2), visited(7, 2, number(25)&15, number(26))}
	a.l = a.l[i%3:]
	a.list = []news{a.x, {At: number(27), Cloud: make([]int, i%14), Drop: []int{7}}}
	return a
}

// Z1, Z2, Z3: no arguments make a function panic, results depend on the arguments alone, and are zero values beside an error.
func TestAnyArguments(t *testing.T) {
	figures := []int64{least, least + 1, -turn, -64, -1, 0, 1, 2, 5, 7, 11, 12, 13, 64, 65, 60_000, slow, fast, turn, 1 << 34, most - 1, most}
	for i := range figures {
		for j := range figures {
			for k := range 8 {
				a := anything(figures, i, j, k)
				o := all(a)
				if fault := o.fault(a); fault != "" {
					t.Fatalf("%v: %s is wrong: %v", a, fault, o)
				}
				if (i+j)%5 == 0 && !reflect.DeepEqual(o, all(a)) {
					t.Fatalf("%v: two results", a)
				}
			}
		}
	}
}

// spare returns arguments for which all functions have results, that have more elements behind the lengths of their slices.
func spare() asked {
	a := asked{c: sample(), l: planned(), at: 5, x: from(3, 7), list: []news{from(2, 2), from(6), cloudy(8, 9, 12, 5)}}
	a.c.n.Cloud = append(a.c.n.Cloud, 4, 9, -1)[:12]
	a.c.p.Requests = append(a.c.p.Requests, wish(77, east, 1, 1), request{})[:3]
	a.c.p.Proposals = append(a.c.p.Proposals, proposal{Name: "z", Share: 7})[:2]
	a.l = append(a.l, visited(9, 9, 9, 9), visit{})[:4]
	for i := range a.list {
		x := &a.list[i]
		x.Cloud, x.Drop = append(x.Cloud, 3, 4)[:len(x.Cloud)], append(x.Drop, 7, 5)[:len(x.Drop)]
	}
	a.list = append(a.list, from(9), news{})[:3]
	return a
}

// whole returns arguments with what is behind the lengths of their slices.
func whole(a asked) asked {
	a.c.n.Cloud = a.c.n.Cloud[:cap(a.c.n.Cloud)]
	a.c.p.Requests, a.c.p.Proposals = a.c.p.Requests[:cap(a.c.p.Requests)], a.c.p.Proposals[:cap(a.c.p.Proposals)]
	a.l, a.x.Cloud, a.x.Drop = a.l[:cap(a.l)], a.x.Cloud[:cap(a.x.Cloud)], a.x.Drop[:cap(a.x.Drop)]
	a.list = slices.Clone(a.list[:cap(a.list)])
	for i, x := range a.list {
		a.list[i].Cloud, a.list[i].Drop = x.Cloud[:cap(x.Cloud)], x.Drop[:cap(x.Drop)]
	}
	return a
}

// Z2: arguments are left as they are, also behind the length of their slices.
func TestUnchanged(t *testing.T) {
	a, untouched := spare(), spare()
	for _, a.at = range []int{0, 1, 2, 3, 4, 5, 7, 9, 12} {
		untouched.at = a.at
		o := all(a)
		if o.stateErr != api.OK || o.againErr != api.OK || o.checkErr != api.OK || o.followErr != api.OK || len(o.again) < 3 || len(o.followed) == 0 {
			t.Errorf("at %d: got %v", a.at, o)
		}
		if !reflect.DeepEqual(whole(a), whole(untouched)) {
			t.Errorf("at %d: they became %v, not %v", a.at, whole(a), whole(untouched))
		}
	}
}

// overwrite writes into all memory of a slice.
func overwrite[T any](l []T, x T) {
	l = l[:cap(l)]
	for i := range l {
		l[i] = x
	}
}

// Z2: results share no memory, also behind their length, with arguments and with each other.
func TestNewMemory(t *testing.T) {
	for _, list := range [][]news{nil, {}, {from(0)}, {from(12)}, {from(5)}, {from(4), from(12, 2, 5, 7)}, spare().list} {
		for at := range 13 {
			a, untouched := spare(), spare()
			a.at, untouched.at, a.list, untouched.list = at, at, list, list
			first, other := all(a), all(a)
			want := all(untouched)
			for _, list := range first.state.Starts {
				overwrite(list, 55)
			}
			overwrite(first.state.Starts, []int{44})
			overwrite(first.again, visited(9, 9, 9, 9))
			overwrite(first.followed, visited(8, 8, 8, 8))
			overwrite(first.came.Cloud, 3)
			if !reflect.DeepEqual(other, want) || !reflect.DeepEqual(all(a), want) || !reflect.DeepEqual(whole(a), whole(untouched)) || want.followErr != api.OK || want.stateErr != api.OK {
				t.Errorf("%d, %v: they became %v and %v, not %v", at, list, other, all(a), want)
			}
		}
	}
}

// Z2: the lists of a state share no memory with each other.
func TestListsApart(t *testing.T) {
	c := sample()
	for at := range 13 {
		s, _ := replan.State(c.n, c.m, c.p, planned(), at)
		for i, list := range s.Starts {
			overwrite(list, -1)
			for _, other := range s.Starts[i+1:] {
				if slices.Contains(other, -1) {
					t.Errorf("at %d: lists share memory", at)
				}
			}
		}
	}
}

// Z4: nil and empty lists are the same.
func TestEmpty(t *testing.T) {
	a, b := asked{c: asking(), at: 12}, asked{c: asking(), at: 12}
	a.c.p, b.c.p = programme{}, programme{Proposals: []proposal{}, Requests: []request{}}
	a.x, b.x = news{At: 12}, news{At: 12, Cloud: []int{}, Drop: []int{}}
	b.l, a.list, b.list = []visit{}, []news{a.x}, []news{b.x}
	o, u := all(a), all(b)
	if !reflect.DeepEqual(o, u) || o.stateErr != api.OK || o.checkErr != api.OK || o.followErr != api.OK || len(o.again)+len(o.followed) > 0 {
		t.Errorf("empty lists have other results than nil: %v, %v", o, u)
	}
	if !sameNight(o.came, evening()) {
		t.Errorf("got %v", o.came)
	}
}
