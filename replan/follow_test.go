package replan_test

import (
	"slices"
	"testing"

	"spyglass/api"
	"spyglass/plan"
	"spyglass/replan"
)

// cloudy returns news from slot k on: there are clouds in the slots from first to before last.
func cloudy(k, first, last int, drop ...int) news {
	x := from(k, drop...)
	for i := first; i < last; i++ {
		x.Cloud[i-k] = 1
	}
	return x
}

// P16.5: how a night goes, in cases that can be followed by hand.
func TestKnownFollow(t *testing.T) {
	l := planned()
	for i, x := range []struct {
		list []news
		want []visit
	}{
		{nil, l}, {[]news{from(0)}, l}, {[]news{from(2)}, l}, {[]news{from(0), from(2), from(2), from(7), from(12), from(12)}, l},
		// A slew is finished; then it is no longer part of the visit.
		{[]news{from(3)}, []visit{l[0], visited(7, 0, 4, 3), l[2], l[3]}},
		{[]news{from(3), from(4), from(8)}, []visit{l[0], visited(7, 0, 4, 3), visited(5, 0, 9, 1), l[3]}},
		// Visits that were broken off do not count: the one in the east is begun again, twice, and then no slots are left for the south.
		{[]news{from(5)}, []visit{l[0], visited(7, 0, 5, 3), visited(5, 2, 10, 1), visited(5, 0, 11, 1)}},
		{[]news{from(5), from(7)}, []visit{l[0], visited(7, 0, 7, 3)}},
		{[]news{from(1)}, []visit{visited(2, 0, 1, 2), visited(7, 2, 5, 3), visited(5, 2, 10, 1), visited(5, 0, 11, 1)}},
		// Clouds come, stay, and go again before what was foreseen.
		{[]news{cloudy(0, 0, 12)}, nil},
		{[]news{cloudy(2, 2, 12)}, l[:1]},
		{[]news{cloudy(2, 2, 12), from(6)}, []visit{l[0], visited(7, 2, 8, 3)}},
		{[]news{cloudy(2, 2, 8)}, []visit{l[0], visited(5, 3, 8, 1), visited(5, 0, 9, 1)}},
		{[]news{cloudy(0, 5, 9)}, []visit{l[0], visited(5, 3, 9, 1), visited(5, 0, 10, 1)}},
		{[]news{cloudy(7, 9, 10)}, []visit{l[0], l[1], visited(5, 2, 10, 1), visited(5, 0, 11, 1)}},
		// Requests are withdrawn: before their visits, while the mount slews there, while they are visited, and after that.
		{[]news{from(0, 2)}, []visit{visited(7, 2, 2, 3), visited(5, 2, 7, 1), visited(5, 0, 8, 1)}},
		{[]news{from(0, 2, 5, 7)}, nil}, {[]news{from(0, 2), from(0, 7), from(0, 5)}, nil}, {[]news{from(12, 2, 5, 7)}, l},
		{[]news{from(2, 7)}, []visit{l[0], visited(5, 3, 5, 1), visited(5, 0, 6, 1)}},
		{[]news{from(3, 7)}, []visit{l[0], visited(5, 2, 6, 1), visited(5, 0, 7, 1)}},
		{[]news{from(5, 7)}, []visit{l[0], visited(5, 2, 7, 1), visited(5, 0, 8, 1)}},
		{[]news{from(7, 7)}, l}, {[]news{from(7, 2, 7), from(10)}, l}, {[]news{from(10, 5)}, l[:3]},
		// They can be withdrawn again, and stay withdrawn.
		{[]news{from(2, 7), from(2, 7)}, []visit{l[0], visited(5, 3, 5, 1), visited(5, 0, 6, 1)}},
		{[]news{from(2, 5, 7), from(4), from(6, 7), from(9, 7, 2)}, l[:1]},
	} {
		c := sample()
		night := sample().n
		for _, y := range x.list {
			copy(night.Cloud[y.At:], y.Cloud)
		}
		if got, n, e := replan.Follow(c.n, c.m, c.p, x.list); !slices.Equal(got, x.want) || !sameNight(n, night) || e != api.OK {
			t.Errorf("case %d: got %v, %v, %d, not %v", i, got, n.Cloud, e, x.want)
		}
	}
}

// P16.5: visits of withdrawn requests do not count for the share of their proposal, and the other requests keep their order and their visits.
func TestWithdrawnShare(t *testing.T) {
	for i, x := range []struct {
		list []news
		want []int
	}{
		// The first proposal has the requests 1, 3 and 4, the second one 2 and 5.
		{nil, []int{1, 5, 3, 2, 3, 4}},
		{[]news{from(1)}, []int{1, 5, 3, 2, 3, 4}},
		{[]news{from(1, 1)}, []int{1, 5, 3, 3, 2, 4}},
		{[]news{from(2, 1)}, []int{1, 5, 3, 3, 2, 4}},
		{[]news{from(1, 1), from(2, 5)}, []int{1, 5, 3, 2, 3, 4}},
		{[]news{from(1, 5), from(2, 1)}, []int{1, 2, 3, 3, 4}},
		{[]news{from(3, 5)}, []int{1, 5, 3, 2, 3, 4}},
		{[]news{from(3, 3)}, []int{1, 5, 3, 2, 4}},
		{[]news{from(3, 1)}, []int{1, 5, 3, 3, 2, 4}},
	} {
		c := asking(wish(1, north, 1, 9), wish(2, north, 1, 1), often(3, north, 2), wish(4, north, 1, 1), wish(5, north, 1, 7))
		c.p.Requests[1].Proposal, c.p.Requests[4].Proposal = 1, 1
		c.p.Requests[2].Weight = 2
		l, _, e := replan.Follow(c.n, c.m, c.p, x.list)
		var ids []int
		for k, v := range l {
			if v.Start != k || v.Slew != 0 {
				t.Errorf("case %d: got %v", i, l)
			}
			ids = append(ids, v.Request)
		}
		if !slices.Equal(ids, x.want) || e != api.OK {
			t.Errorf("case %d: got %v, %d, not %v", i, ids, e, x.want)
		}
	}
}

// followed is the arguments of Follow.
type followed struct {
	c    scene
	list []news
}

// followFaults returns changes after which news for sample from slot 3 on, and then from slot 6 on, have an error; their ranks are less than 12.
func followFaults() (list []fault[followed]) {
	for i := range 2 {
		part := func(x *followed) *news { return &x.list[i] }
		list = append(list, within(6*i, newsFaults(), part)...)
		list = append(list, within(6*i+5, []fault[news]{
			{0, api.ErrRange, func(x *news) { x.Cloud[0] = 5 }},
			{0, api.ErrRange, func(x *news) { x.Cloud[len(x.Cloud)-1] = -1 }},
		}, part)...)
	}
	return append(list,
		fault[followed]{11, api.ErrRange, func(x *followed) { x.list[1] = from(2) }},
		// The slew to the east ends at slot 4, so that nothing more can become known in slot 3.
		fault[followed]{11, api.ErrRange, func(x *followed) { x.list[0], x.list[1] = from(3), from(3) }},
	)
}

// P16.5: each error of Follow, and their order: those of the first news come first.
func TestFollowErrors(t *testing.T) {
	valid := func() followed { return followed{sample(), []news{from(3, 7), from(6, 7)}} }
	faults := append(within(0, sceneFaults(), func(x *followed) *scene { return &x.c }), within(6, followFaults(), func(x *followed) *followed { return x })...)
	testFaults(t, valid, faults, func(x followed) api.Errno {
		l, n, e := replan.Follow(x.c.n, x.c.m, x.c.p, x.list)
		if e != api.OK && (len(l) > 0 || !sameNight(n, night{})) {
			t.Errorf("%v: got %v, %v", x, l, n)
		}
		return e
	})
}

// P16.5: news may come as soon as the base permits, and no sooner.
func TestBaseSlot(t *testing.T) {
	for _, x := range []struct {
		first, second int
		want          api.Errno
	}{
		{0, 0, api.OK}, {2, 2, api.OK}, {2, 1, api.ErrRange}, {3, 4, api.OK}, {3, 3, api.ErrRange}, {4, 4, api.OK}, {4, 3, api.ErrRange}, {5, 5, api.OK}, {5, 4, api.ErrRange},
		{8, 8, api.ErrRange}, {8, 9, api.OK}, {11, 11, api.OK}, {11, 10, api.ErrRange}, {12, 12, api.OK}, {12, 11, api.ErrRange},
	} {
		c := sample()
		if _, _, e := replan.Follow(c.n, c.m, c.p, []news{from(x.first), from(x.second)}); e != x.want {
			t.Errorf("%v: got %d", x, e)
		}
	}
}

// drawnNews returns news for a valid scene, most of them valid and not before slot k.
func (c scene) drawnNews(draw func(lo, hi int64) int64, k int) news {
	x := news{At: min(c.n.Slots, k+int(max(0, draw(-3, 6))))}
	x.Cloud = drawnClouds(draw, max(0, c.n.Slots-x.At))
	if draw(0, 2) == 0 {
		x.Cloud = slices.Clone(c.n.Cloud[max(0, x.At):])
	}
	for _, r := range c.p.Requests {
		if draw(0, 5) == 0 {
			x.Drop = append(x.Drop, r.ID)
		}
	}
	switch draw(0, 40) {
	case 0:
		x.Drop = append(x.Drop, int(draw(0, 60)))
	case 1:
		x.Cloud = append(x.Cloud, 0)
	case 2:
		if len(x.Cloud) > 0 {
			x.Cloud[draw(0, int64(len(x.Cloud)-1))] = 5
		}
	case 3:
		x.At--
		x.Cloud = make([]int, max(0, c.n.Slots-x.At))
	}
	return x
}

// P16.5: nights with news of every sort. Without a visit under way, what is made is possible in the night as it came; withdrawn requests are not visited later.
func TestFollow(t *testing.T) {
	seen := map[api.Errno]int{}
	possible, broken, made := 0, 0, 0
	for i := range uint64(800) {
		draw := draws(i)
		c := drawnScene(draw)
		var list []news
		for k := range draw(0, 6) {
			last := 0
			if k > 0 {
				last = list[k-1].At
			}
			list = append(list, c.drawnNews(draw, last))
		}
		want, wantNight, underWay, wantErr := c.follow(list)
		l, n, e := replan.Follow(c.n, c.m, c.p, list)
		if !slices.Equal(l, want) || !sameNight(n, wantNight) || e != wantErr {
			t.Fatalf("%v, %v: got %v, %v, %d, want %v, %v, %d", c, list, l, n, e, want, wantNight, wantErr)
		}
		seen[e]++
		if e != api.OK {
			continue
		}
		if underWay == 0 {
			possible++
			if e := plan.Check(n, c.m, c.p, l); e != api.OK {
				t.Fatalf("%v, %v: %v has %d", c, list, l, e)
			}
		}
		for _, x := range list {
			for _, v := range l {
				if v.Start+v.Len > x.At && slices.Contains(x.Drop, v.Request) {
					t.Fatalf("%v, %v: got %v", c, list, l)
				}
			}
		}
		broken += underWay
		made += len(l)
	}
	if seen[api.OK] < 500 || min(seen[api.ErrRange], seen[api.ErrNone], seen[api.ErrForm]) < 30 || possible < 300 || broken < 250 || made < 1000 {
		t.Errorf("few cases: %v, %d possible, %d broken off, %d visits", seen, possible, broken, made)
	}
}
