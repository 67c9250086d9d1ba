package plan_test

import (
	"slices"

	"spyglass/api"
	"spyglass/plan"
	"spyglass/slew"
	"spyglass/window"
)

// reached returns the pose of the mount at request r at the beginning of slot k, the slots that this takes, and the error.
func (c scene) reached(from pose, r request, k int) (pose, int, api.Errno) {
	goal, e := slew.Aim(c.n, r.At, k)
	if e != api.OK {
		return pose{}, 0, e
	}
	p, steps, e := slew.To(c.m, from, goal)
	return p, slew.Slots(c.n, steps), e
}

// isClosed reports whether a slot of a visit of r that begins in slot start is not open.
func (c scene) isClosed(r request, start int) bool {
	for k := start; k < start+r.Len; k++ {
		if why, e := window.Why(c.n, r, k); why != window.Open || e != api.OK {
			return true
		}
	}
	return false
}

// last returns the last of some starts; there is one.
func last(starts []int) int { return starts[len(starts)-1] }

// candidate returns the candidate of request i in state s and the reason, as P15.2 says.
func (c scene) candidate(s state, i int) (candidate, int) {
	r, starts := c.p.Requests[i], s.Starts[i]
	if len(starts) == r.Visits {
		return candidate{}, plan.Done
	}
	x := candidate{Index: i, Start: -1}
	for t := c.n.Slots - r.Len; t >= s.Slot; t-- {
		if p, slots, e := c.reached(s.At, r, t); e == api.OK && slots <= t-s.Slot {
			x.Start, x.From = t, p
		}
	}
	if x.Start < 0 {
		return candidate{}, plan.Far
	}
	if len(starts) > 0 && x.Start-last(starts) < r.Least {
		return x, plan.Early
	}
	if len(starts) > 0 && x.Start-last(starts) > r.Most {
		return x, plan.Overdue
	}
	if c.isClosed(r, x.Start) {
		return x, plan.Shut
	}
	p, e := slew.Track(c.m, c.n, x.From, r.At, x.Start, x.Start+r.Len)
	if e != api.OK {
		return x, plan.Limit
	}
	x.To = p
	return x, plan.Fit
}

// isBetter reports whether a is better than b in state s, as P15.3 says.
func (c scene) isBetter(s state, a, b candidate) bool {
	x, y, used := c.p.Requests[a.Index], c.p.Requests[b.Index], plan.Used(c.p, s)
	forX, forY := used[x.Proposal]*c.p.Proposals[y.Proposal].Share, used[y.Proposal]*c.p.Proposals[x.Proposal].Share
	if forX != forY {
		return forX < forY
	}
	if x.Weight != y.Weight {
		return x.Weight > y.Weight
	}
	if a.Start != b.Start {
		return a.Start < b.Start
	}
	return a.Index < b.Index
}

// look returns what Look shall return for a valid state: the best candidate is the one than which no other is better.
func (c scene) look(s state) (list []candidate, reasons []int, best int) {
	for i := range c.p.Requests {
		x, reason := c.candidate(s, i)
		list, reasons = append(list, x), append(reasons, reason)
	}
	best = -1
	for i, a := range list {
		beaten := false
		for j, b := range list {
			beaten = beaten || reasons[j] == plan.Fit && c.isBetter(s, b, a)
		}
		if reasons[i] == plan.Fit && !beaten {
			best = i
		}
	}
	return list, reasons, best
}

// from returns the visits that the rule makes from a valid state on, as P15.3 says.
func (c scene) from(s state) (list []visit) {
	s = plan.Clone(s)
	for s.Slot < c.n.Slots {
		candidates, _, best := c.look(s)
		if best < 0 {
			s.Slot++
			continue
		}
		x, r := candidates[best], c.p.Requests[best]
		list = append(list, visit{Request: r.ID, Slew: x.Start - s.Slot, Start: x.Start, Len: r.Len})
		s.Slot, s.At = x.Start+r.Len, x.To
		s.Starts[best] = append(s.Starts[best], x.Start)
	}
	return list
}

// step returns the state after visit v in a valid state, as P15.5 says.
func (c scene) step(s state, v visit) (state, api.Errno) {
	i := slices.IndexFunc(c.p.Requests, func(r request) bool { return r.ID == v.Request })
	if i < 0 {
		return state{}, api.ErrNone
	}
	r, starts := c.p.Requests[i], s.Starts[i]
	if v.Len != r.Len {
		return state{}, api.ErrForm
	}
	if v.Start < s.Slot || v.Start > c.n.Slots-v.Len || v.Slew < 0 || v.Slew > v.Start-s.Slot {
		return state{}, api.ErrOrder
	}
	if len(starts) == r.Visits {
		return state{}, api.ErrFull
	}
	if len(starts) > 0 && (v.Start-last(starts) < r.Least || v.Start-last(starts) > r.Most) {
		return state{}, api.ErrLate
	}
	if c.isClosed(r, v.Start) {
		return state{}, api.ErrBan
	}
	q, slots, e := c.reached(s.At, r, v.Start)
	if e != api.OK {
		return state{}, api.ErrRange
	}
	if slots > v.Slew {
		return state{}, api.ErrShort
	}
	q, e = slew.Track(c.m, c.n, q, r.At, v.Start, v.Start+v.Len)
	if e != api.OK {
		return state{}, api.ErrRange
	}
	s = plan.Clone(s)
	s.Slot, s.At, s.Starts[i] = v.Start+v.Len, q, append(s.Starts[i], v.Start)
	return s, api.OK
}

// earliest returns what Earliest shall return for a valid state, as P15.4 says.
func (c scene) earliest(s state, i int) (visit, state, api.Errno) {
	if i >= 0 && i < len(c.p.Requests) {
		r := c.p.Requests[i]
		for k := s.Slot; k < c.n.Slots; k++ {
			v := visit{Request: r.ID, Slew: k - s.Slot, Start: k, Len: r.Len}
			if after, e := c.step(s, v); e == api.OK {
				return v, after, api.OK
			}
		}
	}
	return visit{}, state{}, api.ErrNone
}

// walks calls test with valid scenes and their desks, and with states of every sort.
func walks(count int, test func(c scene, d plan.Desk, s state, draw func(lo, hi int64) int64)) {
	for i := range uint64(count) {
		draw := draws(i << 10)
		c := drawnScene(draw)
		d, s := desk(c), plan.Start(c.m, c.p)
		for s.Slot <= c.n.Slots {
			test(c, d, s, draw)
			s = c.walk(s, draw)
		}
	}
}

// walk returns a valid state after s, or one with too large a Slot.
func (c scene) walk(s state, draw func(lo, hi int64) int64) state {
	if len(c.p.Requests) > 0 && draw(0, 2) > 0 {
		i := int(draw(0, int64(len(c.p.Requests)-1)))
		if x, reason := c.candidate(s, i); reason == plan.Fit {
			s = plan.Clone(s)
			s.Slot, s.At, s.Starts[i] = x.Start+c.p.Requests[i].Len, x.To, append(s.Starts[i], x.Start)
			return s
		}
	}
	s.Slot++
	if draw(0, 9) == 0 {
		s.At = to(draw(c.m.Az.Min, c.m.Az.Max), draw(c.m.Alt.Min, c.m.Alt.Max))
	}
	return s
}
