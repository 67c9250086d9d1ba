package window_test

import (
	"slices"
	"testing"

	"spyglass/api"
	"spyglass/window"
)

// clouded returns a night in which the slots with 1 are closed for the request by clouds, and the others are open.
func clouded(closed ...int) (night, request) {
	n, r := evening(), wish()
	n.Slots, n.Cloud, r.Cloud = len(closed), closed, 0
	return n, r
}

// P13.3: the spans of open slots.
func TestOf(t *testing.T) {
	for _, c := range []struct {
		closed []int
		want   []span
	}{
		{[]int{0}, []span{{0, 1}}}, {[]int{1}, nil}, {[]int{1, 1, 1}, nil}, {[]int{0, 0, 0}, []span{{0, 3}}},
		{[]int{1, 0, 1}, []span{{1, 2}}}, {[]int{0, 1, 0}, []span{{0, 1}, {2, 3}}}, {[]int{0, 0, 1, 1, 0, 0, 0}, []span{{0, 2}, {4, 7}}}, {[]int{1, 0, 0, 1, 0, 1, 1, 0}, []span{{1, 3}, {4, 5}, {7, 8}}},
		{make([]int, 64), []span{{0, 64}}},
	} {
		n, r := clouded(c.closed...)
		if l, e := window.Of(n, r); !slices.Equal(l, c.want) || e != api.OK {
			t.Errorf("%v: got %v, %d", c.closed, l, e)
		}
	}
}

// P13.3: a visit fits where all its slots are open and within the night.
func TestFits(t *testing.T) {
	for _, c := range []struct {
		closed []int
		length int
		starts []int
	}{
		{[]int{0}, 1, []int{0}}, {[]int{1}, 1, nil}, {[]int{0}, 2, nil}, {[]int{0, 0}, 2, []int{0}}, {[]int{0, 0, 0}, 2, []int{0, 1}}, {[]int{0, 1, 0}, 1, []int{0, 2}}, {[]int{0, 1, 0}, 2, nil},
		{[]int{0, 0, 0, 1, 0, 0, 0, 0}, 3, []int{0, 4, 5}}, {[]int{0, 0, 0, 1, 0, 0, 0, 0}, 4, []int{4}}, {[]int{0, 0, 0, 1, 0, 0, 0, 0}, 5, nil}, {[]int{0, 0, 0, 0, 0, 0, 0, 0}, 8, []int{0}}, {[]int{0, 0, 0, 0, 0, 0, 0}, 8, nil}, {[]int{0, 0, 0, 0, 0, 0, 0, 0, 1}, 8, []int{0}}, {[]int{1, 0, 0, 0, 0, 0, 0, 0, 0}, 8, []int{1}},
	} {
		n, r := clouded(c.closed...)
		r.Len = c.length
		var starts []int
		for start := -9; start < 20; start++ {
			ok, e := window.Fits(n, r, start)
			if e != api.OK {
				t.Errorf("%v, %d: got %d", c.closed, start, e)
			}
			if ok {
				starts = append(starts, start)
			}
		}
		if !slices.Equal(starts, c.starts) {
			t.Errorf("%v: %d slots fit at %v", c.closed, c.length, starts)
		}
		for _, start := range []int{least, least + 1, most - 8, most - 7, most - 1, most} {
			if ok, e := window.Fits(n, r, start); ok || e != api.OK {
				t.Errorf("%v, %d: got %v, %d", c.closed, start, ok, e)
			}
		}
	}
}

// P13.3: spans and fitting visits follow from the reasons of the slots.
func TestSpans(t *testing.T) {
	several, fits := 0, 0
	nights(300, func(n night, r request) {
		list, _ := window.Slots(n, r)
		isOpen := func(k int) bool { return 0 <= k && k < len(list) && list[k] == window.Open }
		spans, e := window.Of(n, r)
		if e != api.OK {
			t.Fatalf("%v, %v: got %d", n, r, e)
		}
		var want []span
		for from := range list {
			for to := from + 1; to <= len(list); to++ {
				if !slices.ContainsFunc(list[from:to], func(why int) bool { return why != window.Open }) && !isOpen(from-1) && !isOpen(to) {
					want = append(want, span{From: from, To: to})
				}
			}
		}
		if !slices.Equal(spans, want) {
			t.Fatalf("%v, %v: got %v, not %v", n, r, spans, want)
		}
		if len(spans) > 1 {
			several++
		}
		for start := -2; start < n.Slots+2; start++ {
			ok, e := window.Fits(n, r, start)
			inside := slices.ContainsFunc(spans, func(s span) bool { return s.From <= start && start+r.Len <= s.To })
			if ok != inside || e != api.OK {
				t.Fatalf("%v, %v: start %d has %v, %d", n, r, start, ok, e)
			}
			if ok {
				fits++
			}
		}
	})
	if several < 15 || fits < 300 {
		t.Error("few spans: ", several, fits)
	}
}

// P13.3: the errors of Slots, Of and Fits, in order; nothing is returned beside them.
func TestSpanErrors(t *testing.T) {
	testErrors(t, func(n night, r request) api.Errno {
		l, e := window.Slots(n, r)
		if e != api.OK && len(l) > 0 {
			t.Errorf("reasons beside an error: %v, %d", l, e)
		}
		return e
	})
	testErrors(t, func(n night, r request) api.Errno {
		l, e := window.Of(n, r)
		if e != api.OK && len(l) > 0 {
			t.Errorf("spans beside an error: %v, %d", l, e)
		}
		return e
	})
	for _, start := range []int{0, -1, 99, most, least} {
		testErrors(t, func(n night, r request) api.Errno {
			ok, e := window.Fits(n, r, start)
			if e != api.OK && ok {
				t.Errorf("fits beside an error: %d", e)
			}
			return e
		})
	}
}
