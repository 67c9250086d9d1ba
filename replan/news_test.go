package replan_test

import (
	"slices"
	"testing"

	"spyglass/api"
	"spyglass/replan"
)

// P16.4: news that are just valid.
func TestCheck(t *testing.T) {
	c := sample()
	for _, x := range []news{from(0), from(12), from(11), from(5), from(5, 2), from(0, 5, 7, 2), from(12, 7, 5), {At: 11, Cloud: []int{most}}, {At: 10, Cloud: []int{-1, 5}, Drop: []int{5}}} {
		if e := replan.Check(c.n, c.p, x); e != api.OK {
			t.Errorf("%v: got %d", x, e)
		}
	}
	full := programme{Proposals: c.p.Proposals}
	var all []int
	for i := range api.MaxRequests {
		full.Requests, all = append(full.Requests, wish(i+1, north, 1, 1)), append(all, i+1)
	}
	if e := replan.Check(c.n, full, from(3, all...)); e != api.OK {
		t.Errorf("%v: got %d", all, e)
	}
	if e := replan.Check(c.n, full, from(3, append(all, 1)...)); e != api.ErrLarge {
		t.Errorf("%v: got %d", all, e)
	}
}

// newsFaults returns changes after which news for the slots from 5 on of sample have an error; their ranks are less than 5.
func newsFaults() []fault[news] {
	list := []fault[news]{
		{1, api.ErrForm, func(x *news) { x.Cloud = nil }},
		{1, api.ErrForm, func(x *news) { x.Cloud = x.Cloud[:len(x.Cloud)-1] }},
		{1, api.ErrForm, func(x *news) { x.Cloud = make([]int, len(x.Cloud)+1) }},
		{1, api.ErrForm, func(x *news) { x.At++ }},
		{2, api.ErrLarge, func(x *news) { x.Drop = make([]int, api.MaxRequests+1) }},
		{2, api.ErrLarge, func(x *news) { x.Drop = slices.Repeat([]int{2}, api.MaxRequests+1) }},
		{4, api.ErrNone, func(x *news) { x.Drop = append(slices.Clone(x.Drop), 1) }},
	}
	for _, k := range []int{least, -1, 13, most} {
		list = append(list, fault[news]{0, api.ErrRange, func(x *news) { x.At = k }})
	}
	for _, drop := range [][]int{{1}, {0}, {-2}, {least}, {most}, {5, 3}, {3, 5, 5}, {2, 5, 7, 9, 9}, {9, 9}} {
		list = append(list, fault[news]{3, api.ErrNone, func(x *news) { x.Drop = drop }})
	}
	for _, drop := range [][]int{{2, 2}, {5, 2, 5}, {7, 5, 5, 1}, {2, 7, 5, 7}, slices.Repeat([]int{5}, api.MaxRequests)} {
		list = append(list, fault[news]{3, api.ErrTwice, func(x *news) { x.Drop = drop }})
	}
	return list
}

// P16.4: each error of Check, and their order.
func TestCheckErrors(t *testing.T) {
	c := sample()
	testFaults(t, func() news { return from(5, 7) }, newsFaults(), func(x news) api.Errno { return replan.Check(c.n, c.p, x) })
}
