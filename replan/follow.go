package replan

import (
	"slices"

	"spyglass/api"
	"spyglass/plan"
	"spyglass/prop"
)

// course is how a night goes: the visits that were made, and the rest of the plan, which was made from state base. The programme is the one without the requests that were withdrawn, and base is a state of it.
type course struct {
	scene
	base       plan.State
	made, rest []api.Visit
}

// Follow makes the plan of a night and changes it by each of the news in turn. It returns the visits that are made, and the night with the clouds as they came.
func Follow(n api.Night, m api.Mount, p api.Programme, l []News) ([]api.Visit, api.Night, api.Errno) {
	n.Cloud = slices.Clone(n.Cloud)
	c, err := newCourse(n, m, p, plan.Start(m, p))
	if err != api.OK {
		return nil, api.Night{}, err
	}
	for _, x := range l {
		if err := c.check(p, x); err != api.OK {
			return nil, api.Night{}, err
		}
		if c, err = c.after(x); err != api.OK {
			return nil, api.Night{}, err
		}
	}
	return slices.Concat(c.made, c.rest), c.night, api.OK
}

// newCourse returns the course of a night from state base on, without the visits that were made before.
func newCourse(n api.Night, m api.Mount, p api.Programme, base plan.State) (course, api.Errno) {
	c, err := newScene(n, m, p)
	if err != api.OK {
		return course{}, err
	}
	rest, err := c.desk.From(base)
	if err != api.OK {
		return course{}, err
	}
	return course{scene: c, base: base, rest: rest}, api.OK
}

// check checks news for a course, where p is the programme with all its requests.
func (c course) check(p api.Programme, x News) api.Errno {
	if err := Check(c.night, p, x); err != api.OK {
		return err
	}
	if err := prop.CheckNight(clouded(c.night, x)); err != api.OK {
		return err
	}
	if x.At < c.base.Slot {
		return api.ErrRange
	}
	return api.OK
}

// after returns the course after news that are valid for it.
func (c course) after(x News) (course, api.Errno) {
	// The clouds of the news do not matter here: visits that end by x.At are made in slots before it.
	base, err := c.stop(c.base, c.rest, x.At)
	if err != api.OK {
		return course{}, err
	}
	p, base := without(c.programme, base, x.Drop)
	next, err := newCourse(clouded(c.night, x), c.mount, p, base)
	if err != api.OK {
		return course{}, err
	}
	next.made = append(c.made, c.rest[:Kept(c.rest, x.At)]...)
	return next, api.OK
}

// clouded returns the night with the clouds of news that fit its slots.
func clouded(n api.Night, x News) api.Night {
	n.Cloud = slices.Concat(n.Cloud[:x.At], x.Cloud)
	return n
}

// without returns a programme and a state of it without the requests whose IDs are in drop.
func without(p api.Programme, s plan.State, drop []int) (api.Programme, plan.State) {
	requests, starts := p.Requests, s.Starts
	p.Requests, s.Starts = nil, nil
	for i, r := range requests {
		if !slices.Contains(drop, r.ID) {
			p.Requests, s.Starts = append(p.Requests, r), append(s.Starts, starts[i])
		}
	}
	return p, s
}
