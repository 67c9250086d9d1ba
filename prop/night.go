package prop

import (
	"spyglass/api"
	"spyglass/frac"
	"spyglass/horizon"
	"spyglass/scale"
	"spyglass/sphere"
)

// CheckSpin checks a sidereal rotation: a valid rate of 1 to MaxTurns arcs a tick.
func CheckSpin(r api.Rate) api.Errno {
	if err := scale.CheckRate(r); err != api.OK {
		return err
	}
	if frac.Cmp(r.Arcs, api.Frac{Num: 1, Den: 1}) < 0 || frac.Cmp(r.Arcs, api.Frac{Num: MaxTurns, Den: 1}) > 0 {
		return api.ErrRange
	}
	return api.OK
}

// CheckNight checks a night.
func CheckNight(n api.Night) api.Errno {
	if !within(n.Slots, 1, api.MaxSlots) || !within(n.Long, MinLong, MaxLong) || !within(n.Begin, -api.MaxTick/2, api.MaxTick/2) {
		return api.ErrRange
	}
	if err := horizon.CheckSite(n.Site); err != api.OK {
		return err
	}
	if err := CheckSpin(n.Spin); err != api.OK {
		return err
	}
	if sphere.Check(n.Sun) != api.OK || sphere.Check(n.Moon) != api.OK {
		return api.ErrForm
	}
	if !within(n.Dusk, -api.One, 0) {
		return api.ErrRange
	}
	return checkClouds(n)
}

// checkClouds checks the cloud grades of a night, one for each slot.
func checkClouds(n api.Night) api.Errno {
	if len(n.Cloud) != n.Slots {
		return api.ErrForm
	}
	for _, grade := range n.Cloud {
		if !within(grade, 0, MaxCloud) {
			return api.ErrRange
		}
	}
	return api.OK
}
