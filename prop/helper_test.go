package prop_test

import (
	"math"
	"slices"
	"testing"

	"spyglass/api"
)

const (
	one   = api.One
	rim   = api.MaxCoord
	turn  = api.Turn
	end   = api.MaxTick
	most  = math.MaxInt64
	least = math.MinInt64
)

type (
	programme = api.Programme
	request   = api.Request
	vec       = api.Vec
)

// at returns a vector, which may be no direction.
func at(x, y, z int64) vec { return vec{X: x, Y: y, Z: z} }

// chance returns a number without structure, from 0 to limit - 1; state chooses it.
func chance(state uint64, limit int64) int64 {
	for range 3 {
		state = state*6364136223846793005 + 1442695040888963407
		state ^= state >> 29
	}
	return int64(state >> 1 % uint64(limit))
}

// single returns a valid request for one visit.
func single() request {
	return request{ID: 7, At: at(1, -2, 3), Len: 2, Visits: 1, Height: 5, Moon: -9, Cloud: 3, Weight: 4}
}

// repeated returns a valid request for several visits.
func repeated() request {
	return request{ID: 9, Proposal: 1, At: at(-5, 0, 12), Len: 1, Visits: 3, Least: 2, Most: 10, Height: -1, Moon: 77, Cloud: 2, Weight: 1}
}

// sample returns a valid programme with three proposals and three requests.
func sample() programme {
	last := repeated()
	last.ID, last.Proposal, last.Visits = 1, 2, 2
	return programme{
		Proposals: []api.Proposal{{Name: "deep", Share: 3}, {Name: "wide", Share: 1}, {Name: "x-0", Share: 100}},
		Requests:  []request{single(), repeated(), last},
	}
}

// longest returns the valid programme with the longest text.
func longest() (p programme) {
	for i := range 6 {
		p.Proposals = append(p.Proposals, api.Proposal{Name: "abcdefgh-00" + string(rune('a'+i)), Share: 100})
	}
	for i := range 16 {
		p.Requests = append(p.Requests, request{ID: 999999 - i, Proposal: i % 6, At: at(-rim, -rim, -rim), Len: 8, Visits: 4, Least: 64, Most: 64, Height: -one, Moon: -one, Cloud: 4, Weight: 100})
	}
	return p
}

// drawn returns a valid programme without structure.
func drawn(state uint64) (p programme) {
	draw := func(lo, hi int64) int64 {
		state++
		return lo + chance(state<<20, hi-lo+1)
	}
	count := draw(1, 6)
	for i := range count {
		name := []byte{byte(draw('a', 'z')), byte('0' + i)}
		for range draw(0, 10) {
			name = append(name, "abyz0189-"[draw(0, 8)])
		}
		p.Proposals = append(p.Proposals, api.Proposal{Name: string(name), Share: int(draw(1, 100))})
	}
	for i := range draw(0, 16) {
		r := request{ID: int(i*60000 + draw(1, 60000)), Proposal: int(draw(0, count-1)), At: at(draw(-rim, rim), draw(-9, 9), draw(1, 99)), Len: int(draw(1, 8)), Visits: int(draw(1, 4)), Height: api.Fix(draw(-one, one)), Moon: api.Fix(draw(-one, one)), Cloud: int(draw(0, 4)), Weight: int(draw(1, 100))}
		if r.Visits > 1 {
			r.Least = int(draw(1, 64))
			r.Most = int(draw(int64(r.Least), 64))
		}
		p.Requests = append(p.Requests, r)
	}
	return p
}

// programmes returns valid programmes.
func programmes() []programme {
	list := []programme{{}, {Proposals: []api.Proposal{{Name: "a", Share: 1}}}, sample(), longest()}
	for i := range uint64(200) {
		list = append(list, drawn(i))
	}
	return list
}

// same reports whether two programmes are equal.
func same(p, q programme) bool {
	return slices.Equal(p.Proposals, q.Proposals) && slices.Equal(p.Requests, q.Requests)
}

// isNone reports whether p is the zero value.
func isNone(p programme) bool { return len(p.Proposals)+len(p.Requests) == 0 }

// fault is a change after which a valid value has an error; those of a lower rank are checked before it.
type fault[T any] struct {
	rank int
	want api.Errno
	make func(*T)
}

// testFaults checks the error of each fault alone, and that of each fault beside one that is checked after it.
func testFaults[T any](t *testing.T, valid func() T, faults []fault[T], check func(T) api.Errno) {
	t.Helper()
	if e := check(valid()); e != api.OK {
		t.Errorf("%v: got %d", valid(), e)
	}
	for _, a := range faults {
		x := valid()
		a.make(&x)
		if e := check(x); e != a.want {
			t.Errorf("%v: got %d, not %d", x, e, a.want)
		}
		for _, b := range faults {
			if b.rank <= a.rank {
				continue
			}
			// The one that is checked first is made last: it may take the other one back.
			x := valid()
			b.make(&x)
			a.make(&x)
			if e := check(x); e != a.want {
				t.Errorf("%v: got %d, not %d", x, e, a.want)
			}
		}
	}
}
