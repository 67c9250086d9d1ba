package plan

import (
	"slices"

	"spyglass/api"
	"spyglass/prop"
	"spyglass/slew"
)

// State is where a plan stands: the next slot, the pose of the mount at its beginning, and for each request (by index) the slots in which its visits began.
type State struct {
	Slot   int
	At     api.Pose
	Starts [][]int
}

// Start returns the state at the beginning of a night.
func Start(m api.Mount, p api.Programme) State {
	return State{At: m.Park, Starts: make([][]int, len(p.Requests))}
}

// Clone returns a copy of a state that shares no memory with it.
func Clone(s State) State {
	starts := make([][]int, len(s.Starts))
	for i, list := range s.Starts {
		starts[i] = slices.Clone(list)
	}
	s.Starts = starts
	return s
}

// CheckState checks that a state fits a night, a mount and a programme that are valid.
func CheckState(n api.Night, m api.Mount, p api.Programme, s State) api.Errno {
	if s.Slot < 0 || s.Slot > n.Slots || !slew.In(m.Az, s.At.Az) || !slew.In(m.Alt, s.At.Alt) {
		return api.ErrRange
	}
	if len(s.Starts) != len(p.Requests) {
		return api.ErrForm
	}
	for i, r := range p.Requests {
		if err := checkStarts(r, s.Slot, s.Starts[i]); err != api.OK {
			return err
		}
	}
	return api.OK
}

// checkStarts checks the slots in which visits of request r began; all of them have ended when slot next begins.
func checkStarts(r api.Request, next int, starts []int) api.Errno {
	if len(starts) > r.Visits {
		return api.ErrFull
	}
	last := -1
	for _, k := range starts {
		// A start may be too large for its end to be computed.
		if k <= last || k > next-r.Len {
			return api.ErrOrder
		}
		last = k
	}
	return api.OK
}

// Used returns for each proposal the number of slots that are exposed for it in state s; nothing if the programme is not valid, or s does not have as many requests as it.
func Used(p api.Programme, s State) []int {
	if prop.Check(p) != api.OK || len(s.Starts) != len(p.Requests) {
		return nil
	}
	return used(p, s)
}

// used is Used for a valid programme and a state that has as many requests.
func used(p api.Programme, s State) []int {
	slots := make([]int, len(p.Proposals))
	for i, r := range p.Requests {
		slots[r.Proposal] += r.Len * len(s.Starts[i])
	}
	return slots
}

// next returns the state after a visit of request i that begins in slot start and ends at pose at when slot end begins.
func (s State) next(i, start, end int, at api.Pose) State {
	s = Clone(s)
	s.Slot, s.At, s.Starts[i] = end, at, append(s.Starts[i], start)
	return s
}
