package clock

import "spyglass/api"

// Leg says that a simulated clock deviates by Ppm millionths for For ticks of uniform time.
type Leg struct {
	For api.Tick
	Ppm int64
}

// Run is a simulated clock: it shows Set at the uniform time At; after its legs its rate is exact.
type Run struct {
	Set, At api.Tick
	Legs    []Leg
}

// CheckRun validates a simulated clock.
func CheckRun(r Run) api.Errno {
	if !inTime(r.Set) || !inTime(r.At) {
		return api.ErrRange
	}
	if len(r.Legs) > MaxLegs {
		return api.ErrLarge
	}
	for _, leg := range r.Legs {
		if leg.For < 0 || leg.For > MaxLife || leg.Ppm < -MaxDrift || leg.Ppm > MaxDrift {
			return api.ErrRange
		}
	}
	return api.OK
}

// Reads returns what a simulated clock shows at a uniform time.
func Reads(r Run, t api.Tick) (api.Tick, api.Errno) {
	if err := CheckRun(r); err != api.OK {
		return 0, err
	}
	if !inTime(t) || t < r.At || t > r.At+MaxLife {
		return 0, api.ErrRange
	}
	// What counts of the legs lasts at most MaxLife ticks, so the sum stays below 2^61.
	left, millionths := int64(t-r.At), int64(0)
	for _, leg := range r.Legs {
		part := min(left, int64(leg.For))
		left -= part
		millionths += part * (Million + leg.Ppm)
	}
	millionths += left * Million
	return r.Set + api.Tick(millionths/Million), api.OK
}
