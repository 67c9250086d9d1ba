package plan

import (
	"slices"

	"spyglass/api"
)

// step returns the state after visit v in a valid state, or the first reason for which it is not possible.
func (d Desk) step(s State, v api.Visit) (State, api.Errno) {
	i := slices.IndexFunc(d.programme.Requests, func(r api.Request) bool { return r.ID == v.Request })
	if i < 0 {
		return State{}, api.ErrNone
	}
	if err := d.checkSlots(s, i, v); err != api.OK {
		return State{}, err
	}
	pose, slots, err := d.reach(s.At, i, v.Start)
	if err != api.OK {
		return State{}, api.ErrRange
	}
	if slots > v.Slew {
		return State{}, api.ErrShort
	}
	pose, err = d.track(pose, i, v.Start)
	if err != api.OK {
		return State{}, api.ErrRange
	}
	return s.next(i, v.Start, v.Start+v.Len, pose), api.OK
}

// checkSlots checks the slots of visit v of request i in a valid state, wherever the mount is.
func (d Desk) checkSlots(s State, i int, v api.Visit) api.Errno {
	r, starts := d.programme.Requests[i], s.Starts[i]
	if v.Len != r.Len {
		return api.ErrForm
	}
	if v.Start < s.Slot || v.Start > d.night.Slots-v.Len || v.Slew < 0 || v.Slew > v.Start-s.Slot {
		return api.ErrOrder
	}
	if len(starts) == r.Visits {
		return api.ErrFull
	}
	if gap, repeated := gapTo(starts, v.Start); repeated && (gap < r.Least || gap > r.Most) {
		return api.ErrLate
	}
	if !d.isOpen(i, v.Start) {
		return api.ErrBan
	}
	return api.OK
}
