package plan

import (
	"slices"

	"spyglass/api"
	"spyglass/slew"
	"spyglass/window"
)

// Desk is what the planner works with: a night, a mount and a programme, for each request which slots are open, and its aim at the beginning of each slot. The zero Desk has no night; all its methods return ErrState.
type Desk struct {
	night     api.Night
	mount     api.Mount
	programme api.Programme
	fields    []field
}

// field is where a request points during the night: computed once, since every decision needs it.
type field struct {
	isOpen []bool
	aims   []api.Pose
}

// NewDesk returns a desk for copies of a night, a mount and a programme.
func NewDesk(n api.Night, m api.Mount, p api.Programme) (Desk, api.Errno) {
	if err := CheckAll(n, m, p); err != api.OK {
		return Desk{}, err
	}
	n.Cloud = slices.Clone(n.Cloud)
	d := Desk{night: n, mount: m, programme: api.Programme{Proposals: slices.Clone(p.Proposals), Requests: slices.Clone(p.Requests)}}
	for _, r := range p.Requests {
		d.fields = append(d.fields, newField(n, r))
	}
	return d, api.OK
}

// newField returns the field of a valid request in a valid night, for which neither windows nor aims have errors.
func newField(n api.Night, r api.Request) field {
	reasons, _ := window.Slots(n, r)
	f := field{isOpen: make([]bool, len(reasons)), aims: make([]api.Pose, len(reasons))}
	for k, why := range reasons {
		f.isOpen[k] = why == window.Open
		f.aims[k], _ = slew.Aim(n, r.At, k)
	}
	return f
}

// check checks a state for the desk.
func (d Desk) check(s State) api.Errno {
	if d.isZero() {
		return api.ErrState
	}
	return CheckState(d.night, d.mount, d.programme, s)
}

// isZero reports whether d is the zero Desk: a valid night has slots.
func (d Desk) isZero() bool { return d.night.Slots == 0 }

// From returns the visits that the rule makes from state s on.
func (d Desk) From(s State) ([]api.Visit, api.Errno) {
	if err := d.check(s); err != api.OK {
		return nil, err
	}
	var visits []api.Visit
	for s.Slot < d.night.Slots {
		candidates, _, best := d.look(s)
		if best < 0 {
			s.Slot++
			continue
		}
		c, r := candidates[best], d.programme.Requests[best]
		visits = append(visits, api.Visit{Request: r.ID, Slew: c.Start - s.Slot, Start: c.Start, Len: r.Len})
		s = s.next(best, c.Start, c.Start+r.Len, c.To)
	}
	return visits, api.OK
}

// Look returns for each request its candidate in state s, and the reason for which it is none, or Fit; and the index of the request that is chosen, or -1.
func (d Desk) Look(s State) ([]Candidate, []int, int, api.Errno) {
	if err := d.check(s); err != api.OK {
		return nil, nil, 0, err
	}
	candidates, reasons, best := d.look(s)
	return candidates, reasons, best, api.OK
}

// Step returns the state after visit v in state s, or the first reason for which it is not possible.
func (d Desk) Step(s State, v api.Visit) (State, api.Errno) {
	if err := d.check(s); err != api.OK {
		return State{}, err
	}
	return d.step(s, v)
}

// Earliest returns the earliest visit of request i that is possible in state s, whose slew begins at slot s.Slot, and the state after it; ErrNone if there is none, or no such request.
func (d Desk) Earliest(s State, i int) (api.Visit, State, api.Errno) {
	if err := d.check(s); err != api.OK {
		return api.Visit{}, State{}, err
	}
	if i < 0 || i >= len(d.programme.Requests) {
		return api.Visit{}, State{}, api.ErrNone
	}
	r := d.programme.Requests[i]
	for t := s.Slot; t <= d.night.Slots-r.Len; t++ {
		v := api.Visit{Request: r.ID, Slew: t - s.Slot, Start: t, Len: r.Len}
		if after, err := d.step(s, v); err == api.OK {
			return v, after, api.OK
		}
	}
	return api.Visit{}, State{}, api.ErrNone
}

// After returns the state after the visits of l from the beginning of the night on: the slot is the end of the last one.
func (d Desk) After(l []api.Visit) (State, api.Errno) {
	if d.isZero() {
		return State{}, api.ErrState
	}
	if len(l) > d.night.Slots {
		return State{}, api.ErrLarge
	}
	s := Start(d.mount, d.programme)
	for _, v := range l {
		after, err := d.step(s, v)
		if err != api.OK {
			return State{}, err
		}
		s = after
	}
	return s, api.OK
}

// isOpen reports whether all slots of a visit of request i that begins in slot start, and ends within the night, are open.
func (d Desk) isOpen(i, start int) bool {
	return !slices.Contains(d.fields[i].isOpen[start:start+d.programme.Requests[i].Len], false)
}

// reach returns the pose of a mount that slews from pose at to request i at the beginning of slot k, and the number of slots that this takes.
func (d Desk) reach(at api.Pose, i, k int) (api.Pose, int, api.Errno) {
	pose, steps, err := slew.To(d.mount, at, d.fields[i].aims[k])
	if err != api.OK {
		return api.Pose{}, 0, err
	}
	return pose, slew.Slots(d.night, steps), api.OK
}

// track returns the pose at the end of a visit of request i that begins in slot start with pose at.
func (d Desk) track(at api.Pose, i, start int) (api.Pose, api.Errno) {
	r := d.programme.Requests[i]
	return slew.Track(d.mount, d.night, at, r.At, start, start+r.Len)
}
