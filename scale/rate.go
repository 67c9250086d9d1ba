package scale

import (
	"spyglass/api"
	"spyglass/bound"
	"spyglass/frac"
	"spyglass/num"
)

// Earth returns the mean rate at which the sidereal angle grows.
func Earth() api.Frac { return api.Frac{Num: 41072144766976, Den: 823974609375} }

// CheckRate validates a rotation.
func CheckRate(r api.Rate) api.Errno {
	if !inTime(r.At) || !inTurn(r.Angle) {
		return api.ErrRange
	}
	if err := frac.Check(r.Arcs); err != api.OK {
		return err
	}
	if r.Arcs.Num <= 0 || frac.Cmp(r.Arcs, api.Frac{Num: MaxArcs, Den: 1}) > 0 {
		return api.ErrArg
	}
	return api.OK
}

// inTurn reports whether a is reduced to a turn.
func inTurn(a api.Arc) bool { return 0 <= a && a < api.Turn }

// Sidereal returns the bound of the angle at a time, not reduced to a turn.
func Sidereal(r api.Rate, t api.Bound[api.Tick]) api.Bound[api.Arc] {
	if CheckRate(r) != api.OK {
		return bound.None[api.Arc]()
	}
	elapsed := bound.Sub(t, bound.Exact(r.At))
	turned := bound.Scale(bound.As[api.Arc](elapsed), r.Arcs.Num, r.Arcs.Den)
	return bound.Add(turned, bound.Exact(r.Angle))
}

// Angle returns the angle at a time, rounded down and reduced to a turn; it returns 0 if the rate is not valid or the time is out of range.
func Angle(r api.Rate, t api.Tick) api.Arc {
	if CheckRate(r) != api.OK || !inTime(t) {
		return 0
	}
	return api.Arc(num.Mod(wholeAngle(r, t), api.Turn))
}

// wholeAngle returns the angle at a time, rounded down but not reduced to a turn, of a valid rotation at a time within the limits.
func wholeAngle(r api.Rate, t api.Tick) int64 {
	// Within these limits, neither the quotient nor the sum exceeds 2^62.
	turned, _ := num.MulDiv(int64(t-r.At), r.Arcs.Num, r.Arcs.Den)
	return int64(r.Angle) + turned
}

// When returns the first time not before from at which the angle has reached a.
func When(r api.Rate, from api.Tick, a api.Arc) (api.Tick, api.Errno) {
	if err := CheckRate(r); err != api.OK {
		return 0, err
	}
	if !inTime(from) || !inTurn(a) {
		return 0, api.ErrRange
	}
	first := wholeAngle(r, from)
	goal := first + num.Mod(int64(a)-first, api.Turn)
	// The angle, rounded down or not, reaches the goal at the same time, since the goal is a whole number.
	wait, err := num.MulDivUp(goal-int64(r.Angle), r.Arcs.Den, r.Arcs.Num)
	if err != api.OK || wait > int64(api.MaxTick-r.At) {
		return 0, api.ErrLarge
	}
	return max(from, r.At+api.Tick(wait)), api.OK
}
