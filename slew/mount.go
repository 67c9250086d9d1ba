package slew

import (
	"spyglass/api"
	"spyglass/horizon"
	"spyglass/num"
	"spyglass/prop"
	"spyglass/scale"
)

// CheckMount checks a mount.
func CheckMount(m api.Mount) api.Errno {
	if err := CheckAxis(m.Az); err != api.OK {
		return err
	}
	if err := CheckAxis(m.Alt); err != api.OK {
		return err
	}
	if !reaches(m, m.Park) {
		return api.ErrRange
	}
	return api.OK
}

// To returns the pose for an aim (angles modulo a turn) and the number of steps until both axes rest there.
func To(m api.Mount, from, aim api.Pose) (api.Pose, int, api.Errno) {
	if err := CheckMount(m); err != api.OK {
		return api.Pose{}, 0, err
	}
	if !reaches(m, from) {
		return api.Pose{}, 0, api.ErrRange
	}
	pose, err := targets(m, from, aim)
	if err != api.OK {
		return api.Pose{}, 0, err
	}
	return pose, max(steps(m.Az, from.Az, pose.Az), steps(m.Alt, from.Alt, pose.Alt)), api.OK
}

// Slots returns the number of slots that a number of steps takes, a step a second, rounded up; 0 for a night that is not valid, and for less than one step. More than MaxTravel steps count as MaxTravel.
func Slots(n api.Night, steps int) int {
	if prop.CheckNight(n) != api.OK || steps < 1 {
		return 0
	}
	return int(num.CeilDiv(int64(min(steps, MaxTravel))*api.Second, int64(n.Long)))
}

// Aim returns the aim at direction v at the beginning of slot k.
func Aim(n api.Night, v api.Vec, k int) (api.Pose, api.Errno) {
	if err := prop.CheckNight(n); err != api.OK {
		return api.Pose{}, err
	}
	if k < 0 || k > n.Slots {
		return api.Pose{}, api.ErrRange
	}
	return aimAt(n, v, k)
}

// Track returns the pose at the beginning of slot to of a mount that follows direction v from pose at at the beginning of slot from. It returns ErrRange if an axis would have to leave its limits, or to move by more than Jump in a slot.
func Track(m api.Mount, n api.Night, at api.Pose, v api.Vec, from, to int) (api.Pose, api.Errno) {
	if err := CheckMount(m); err != api.OK {
		return api.Pose{}, err
	}
	if err := prop.CheckNight(n); err != api.OK {
		return api.Pose{}, err
	}
	if !reaches(m, at) || from < 0 || from > to || to > n.Slots {
		return api.Pose{}, api.ErrRange
	}
	pose := at
	for k := from + 1; k <= to; k++ {
		next, err := follow(m, n, pose, v, k)
		if err != api.OK {
			return api.Pose{}, err
		}
		pose = next
	}
	return pose, api.OK
}

// follow returns the pose at the beginning of slot k of a mount that had pose before at the beginning of the slot before it.
func follow(m api.Mount, n api.Night, before api.Pose, v api.Vec, k int) (api.Pose, api.Errno) {
	goal, err := aimAt(n, v, k)
	if err != api.OK {
		return api.Pose{}, err
	}
	pose, err := targets(m, before, goal)
	if err != api.OK {
		return api.Pose{}, err
	}
	if isJump(before.Az, pose.Az) || isJump(before.Alt, pose.Alt) {
		return api.Pose{}, api.ErrRange
	}
	return pose, api.OK
}

// isJump reports whether two positions of an axis are too far apart for it to follow a direction.
func isJump(p, q int64) bool { return max(p, q)-min(p, q) > Jump }

// reaches reports whether both components of a pose are within the limits of their axes.
func reaches(m api.Mount, p api.Pose) bool { return In(m.Az, p.Az) && In(m.Alt, p.Alt) }

// targets returns the targets of both axes of a valid mount from a pose within its limits.
func targets(m api.Mount, from, aim api.Pose) (api.Pose, api.Errno) {
	az, err := target(m.Az, from.Az, api.Arc(aim.Az))
	if err != api.OK {
		return api.Pose{}, err
	}
	alt, err := target(m.Alt, from.Alt, api.Arc(aim.Alt))
	if err != api.OK {
		return api.Pose{}, err
	}
	return api.Pose{Az: az, Alt: alt}, api.OK
}

// aimAt is Aim for a valid night and a slot that begins or ends in it.
func aimAt(n api.Night, v api.Vec, k int) (api.Pose, api.Errno) {
	return horizon.Aim(n.Site, scale.Angle(n.Spin, n.Begin+api.Tick(k)*n.Long), v)
}
