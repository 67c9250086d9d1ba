package plan

import "spyglass/api"

// Reasons for which a request is no candidate.
const (
	Fit     = iota // it is one
	Done           // all its visits were made
	Far            // no slot of the night is left in which the mount can be there
	Early          // the visit before it is too short a time ago
	Overdue        // the visit before it is too long a time ago
	Shut           // a slot of the visit is closed
	Limit          // the mount cannot follow to the end of the visit
)

// Candidate is a request that can be visited next: Index is its index, Start the slot in which the visit begins, From and To the poses at its beginning and at its end.
type Candidate struct {
	Index, Start int
	From, To     api.Pose
}

// look is Look for a valid state.
func (d Desk) look(s State) ([]Candidate, []int, int) {
	candidates, reasons, best := make([]Candidate, len(d.fields)), make([]int, len(d.fields)), -1
	slots := used(d.programme, s)
	for i := range d.fields {
		c, reason := d.candidate(s, i)
		candidates[i], reasons[i] = c, reason
		if reason == Fit && (best < 0 || d.isBetter(c, candidates[best], slots)) {
			best = i
		}
	}
	return candidates, reasons, best
}

// candidate returns what is known of request i as a candidate in state s, and the first reason for which it is none, or Fit.
func (d Desk) candidate(s State, i int) (Candidate, int) {
	r, starts := d.programme.Requests[i], s.Starts[i]
	if len(starts) == r.Visits {
		return Candidate{}, Done
	}
	c, reached := d.first(s, i)
	if !reached {
		return Candidate{}, Far
	}
	switch gap, repeated := gapTo(starts, c.Start); {
	case repeated && gap < r.Least:
		return c, Early
	case repeated && gap > r.Most:
		return c, Overdue
	}
	if !d.isOpen(i, c.Start) {
		return c, Shut
	}
	to, err := d.track(c.From, i, c.Start)
	if err != api.OK {
		return c, Limit
	}
	c.To = to
	return c, Fit
}

// first returns the first slot in which a visit of request i can begin after a slew, as a candidate, if there is one.
func (d Desk) first(s State, i int) (Candidate, bool) {
	for t := s.Slot; t <= d.night.Slots-d.programme.Requests[i].Len; t++ {
		pose, slots, err := d.reach(s.At, i, t)
		if err == api.OK && slots <= t-s.Slot {
			return Candidate{Index: i, Start: t, From: pose}, true
		}
	}
	return Candidate{}, false
}

// isBetter reports whether candidate a is better than b, which has a smaller index, if slots are used for each proposal: the one for the proposal with the smaller part of its share comes first.
func (d Desk) isBetter(a, b Candidate, slots []int) bool {
	x, y := d.programme.Requests[a.Index], d.programme.Requests[b.Index]
	forX := slots[x.Proposal] * d.programme.Proposals[y.Proposal].Share
	forY := slots[y.Proposal] * d.programme.Proposals[x.Proposal].Share
	switch {
	case forX != forY:
		return forX < forY
	case x.Weight != y.Weight:
		return x.Weight > y.Weight
	}
	return a.Start < b.Start
}

// gapTo returns the number of slots from the last of starts to slot k, if there is a last one.
func gapTo(starts []int, k int) (int, bool) {
	if len(starts) == 0 {
		return 0, false
	}
	return k - starts[len(starts)-1], true
}
