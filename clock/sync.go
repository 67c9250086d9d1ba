package clock

import (
	"spyglass/api"
	"spyglass/bound"
)

// Sync sets a clock by an exchange: it showed sent when the question was sent, and got when the answer came, which tells the uniform time at some moment between.
func Sync(c Clock, sent, got api.Tick, told api.Bound[api.Tick]) (Clock, api.Errno) {
	if err := Check(c); err != api.OK {
		return Clock{}, err
	}
	if !inTime(sent) || !inTime(got) {
		return Clock{}, api.ErrRange
	}
	if sent < c.Set || got < sent {
		return Clock{}, api.ErrOrder
	}
	// The moment of which the answer tells is not before the question, so the answer came at most the whole exchange later.
	came := bound.Add(told, bound.Of(0, longest(got-sent+1, c.Drift)))
	at, ok := bound.Meet(Uniform(c, got), came)
	if !ok {
		return Clock{}, api.ErrClash
	}
	c.Set, c.At = got, at
	if err := Check(c); err != api.OK {
		return Clock{}, err
	}
	return c, api.OK
}

// Agree returns the bound of the uniform time at which some clocks, of which at most f are wrong, show values together.
func Agree(l []Clock, shown []api.Tick, f int) (api.Bound[api.Tick], api.Errno) {
	if len(l) > MaxClocks {
		return api.Bound[api.Tick]{}, api.ErrLarge
	}
	if len(shown) != len(l) {
		return api.Bound[api.Tick]{}, api.ErrShort
	}
	times := make([]api.Bound[api.Tick], len(l))
	for i, c := range l {
		if err := Check(c); err != api.OK {
			return api.Bound[api.Tick]{}, err
		}
		times[i] = Uniform(c, shown[i])
	}
	return bound.Fuse(times, f), api.OK
}
