package plan_test

import (
	"slices"
	"testing"

	"spyglass/api"
	"spyglass/plan"
)

// P15.1: each error of CheckAll, and their order.
func TestCheckAllErrors(t *testing.T) {
	testFaults(t, sample, sceneFaults(), func(c scene) api.Errno { return plan.CheckAll(c.n, c.m, c.p) })
}

// P15.1: states that fit, at the limits of everything.
func TestCheckState(t *testing.T) {
	for _, s := range []state{
		midway(), {Starts: make([][]int, 3)}, {Slot: 12, Starts: make([][]int, 3)}, {At: to(-turn, 0), Starts: make([][]int, 3)}, {At: to(2*turn, turn/4), Starts: [][]int{{}, {}, {}}},
		// Visits of two slots may begin in slots that follow each other: only their order is checked.
		{Slot: 6, Starts: [][]int{{1, 2, 3, 4}, {5}, {2, 3, 4, 5}}}, {Slot: 2, Starts: [][]int{{0}, {1}, {1}}}, {Slot: 12, Starts: [][]int{{10}, {11}, {0, 11}}},
	} {
		c := sample()
		if e := plan.CheckState(c.n, c.m, c.p, s); e != api.OK {
			t.Errorf("%v: got %d", s, e)
		}
	}
}

// P15.1: each error of CheckState, and their order.
func TestCheckStateErrors(t *testing.T) {
	c := sample()
	testFaults(t, midway, stateFaults(), func(s state) api.Errno { return plan.CheckState(c.n, c.m, c.p, s) })
}

// P15.1: the beginning of a plan.
func TestStart(t *testing.T) {
	c := sample()
	if s := plan.Start(c.m, c.p); !sameState(s, state{At: aim(north, 0), Starts: [][]int{{}, {}, {}}}) {
		t.Errorf("got %v", s)
	}
	if s := plan.Start(mount{Park: to(most, least)}, programme{}); !sameState(s, state{At: to(most, least)}) {
		t.Errorf("got %v", s)
	}
	if s := plan.Start(mount{}, programme{Requests: make([]request, 40)}); len(s.Starts) != 40 {
		t.Errorf("got %v", s)
	}
}

// P15.1: a clone is equal, and what is written into it is not seen in the original.
func TestClone(t *testing.T) {
	for _, s := range []state{{}, midway(), {Slot: -7, At: to(least, most), Starts: [][]int{nil, {}, {least, most, 0, 0, 0}}}} {
		c, d := plan.Clone(s), plan.Clone(s)
		if !sameState(c, s) {
			t.Errorf("got %v, not %v", c, s)
		}
		for i := range c.Starts[:cap(c.Starts)] {
			list := c.Starts[:cap(c.Starts)][i]
			for j := range list[:cap(list)] {
				list[:cap(list)][j]++
			}
			c.Starts[:cap(c.Starts)][i] = []int{99}
		}
		if !sameState(d, s) {
			t.Errorf("it became %v, not %v", s, d)
		}
	}
}

// P15.1: the slots of each proposal are the lengths of its visits.
func TestUsed(t *testing.T) {
	c := sample()
	c.p.Proposals = append(c.p.Proposals, proposal{Name: "c", Share: 9})
	for _, x := range []struct {
		starts [][]int
		want   []int
	}{
		{[][]int{{}, {}, {}}, []int{0, 0, 0}}, {midway().Starts, []int{7, 0, 0}}, {[][]int{{4}, {1}, {}}, []int{2, 1, 0}}, {[][]int{{}, {1}, {2, 3, 4, 5}}, []int{4, 1, 0}},
		{[][]int{{9, 9, 9, 9, 9, 9}, {-1, -2}, {}}, []int{12, 2, 0}},
		{nil, nil}, {[][]int{{}, {}}, nil}, {[][]int{{}, {}, {}, {}}, nil},
	} {
		if l := plan.Used(c.p, state{Slot: 77, Starts: x.starts}); !slices.Equal(l, x.want) {
			t.Errorf("%v: got %v", x.starts, l)
		}
	}
	if l := plan.Used(programme{}, state{}); len(l) != 0 {
		t.Errorf("got %v", l)
	}
	if l := plan.Used(programme{Proposals: c.p.Proposals}, state{}); !slices.Equal(l, []int{0, 0, 0}) {
		t.Errorf("got %v", l)
	}
}

// P15.1: nothing is used in a programme that is not valid.
func TestUsedErrors(t *testing.T) {
	for _, f := range sceneFaults() {
		c := sample()
		f.make(&c)
		if l := plan.Used(c.p, midway()); (len(l) == 0) != (f.rank >= 8) {
			t.Errorf("%v: got %v", c.p, l)
		}
	}
}
