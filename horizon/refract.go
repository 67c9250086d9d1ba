package horizon

import (
	"sort"

	"spyglass/api"
	"spyglass/bound"
)

// Bend is an entry of a table of refraction: a direction at the altitude Alt is seen higher by Lift.
type Bend struct {
	Alt  api.Arc
	Lift api.Bound[api.Arc]
}

// CheckBends validates a table of refraction.
func CheckBends(l []Bend) api.Errno {
	if len(l) > MaxBends {
		return api.ErrLarge
	}
	for i, b := range l {
		if !inQuarters(b.Alt) {
			return api.ErrRange
		}
		if err := bound.Check(b.Lift); err != api.OK {
			return err
		}
		if i > 0 && b.Alt <= l[i-1].Alt {
			return api.ErrOrder
		}
	}
	return api.OK
}

// Refract returns the bound of the altitude at which a direction is seen, if its lift lies between those of the entries around it.
func Refract(l []Bend, alt api.Bound[api.Arc]) api.Bound[api.Arc] {
	if CheckBends(l) != api.OK || bound.Norm(alt).Unknown {
		return bound.None[api.Arc]()
	}
	first := sort.Search(len(l), func(i int) bool { return l[i].Alt > alt.Lo }) - 1
	last := sort.Search(len(l), func(i int) bool { return l[i].Alt >= alt.Hi })
	if first < 0 || last == len(l) {
		return bound.None[api.Arc]()
	}
	lift := l[first].Lift
	for _, b := range l[first+1 : last+1] {
		lift = bound.Hull(lift, b.Lift)
	}
	return bound.Add(alt, lift)
}
