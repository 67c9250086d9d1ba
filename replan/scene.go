package replan

import (
	"spyglass/api"
	"spyglass/plan"
	"spyglass/prop"
	"spyglass/slew"
)

// scene is what plans are made for, all of it valid, and the desk for it.
type scene struct {
	night     api.Night
	mount     api.Mount
	programme api.Programme
	desk      plan.Desk
}

// newScene returns a scene that shares the memory of its arguments, or the error of plan.CheckAll.
func newScene(n api.Night, m api.Mount, p api.Programme) (scene, api.Errno) {
	d, err := plan.NewDesk(n, m, p)
	if err != api.OK {
		return scene{}, err
	}
	return scene{night: n, mount: m, programme: p, desk: d}, api.OK
}

// state is State for the scene.
func (c scene) state(l []api.Visit, at int) (plan.State, api.Errno) {
	if at < 0 || at > c.night.Slots {
		return plan.State{}, api.ErrRange
	}
	return c.stop(plan.Start(c.mount, c.programme), l, at)
}

// stop returns the state from which a plan is made anew at slot at, where the visits of l were to follow state s, and at is a slot of the night or its end.
func (c scene) stop(s plan.State, l []api.Visit, at int) (plan.State, api.Errno) {
	for _, v := range l[:Kept(l, at)] {
		next, err := c.desk.Step(s, v)
		if err != api.OK {
			return plan.State{}, err
		}
		s = next
	}
	s.Slot = at
	v, found := UnderWay(l, at)
	if !found {
		return s, api.OK
	}
	s.Slot = max(v.Start, at)
	pose, err := c.leave(s.At, v, s.Slot)
	if err != api.OK {
		return plan.State{}, err
	}
	s.At = pose
	return s, api.OK
}

// leave returns the pose at the beginning of slot end of a mount that slews from a pose to the field of visit v, and follows it from slot v.Start on. The visit itself need not be possible.
func (c scene) leave(from api.Pose, v api.Visit, end int) (api.Pose, api.Errno) {
	r, found := prop.Find(c.programme, v.Request)
	if !found {
		return api.Pose{}, api.ErrNone
	}
	aim, err := slew.Aim(c.night, r.At, v.Start)
	if err != api.OK {
		return api.Pose{}, err
	}
	pose, _, err := slew.To(c.mount, from, aim)
	if err != api.OK {
		return api.Pose{}, err
	}
	return slew.Track(c.mount, c.night, pose, r.At, v.Start, end)
}
