package replan_test

import (
	"slices"

	"spyglass/api"
	"spyglass/plan"
	"spyglass/prop"
	"spyglass/replan"
	"spyglass/slew"
)

// isRegular reports whether a visit is regular, as P16.1 says.
func isRegular(v visit) bool {
	return v.Slew >= 0 && v.Start >= 0 && v.Len >= 0 && v.Slew <= api.MaxSlots && v.Start <= api.MaxSlots && v.Len <= api.MaxSlots
}

// split returns the visits of l before the first one that does not end by slot at, and this one and those after it.
func split(l []visit, at int) (before, after []visit) {
	i := slices.IndexFunc(l, func(v visit) bool { return !isRegular(v) || v.Start+v.Len > at })
	if i < 0 {
		return l, nil
	}
	return l[:i], l[i:]
}

// underWay returns the visit that is under way, if there is one.
func underWay(l []visit, at int) *visit {
	if _, after := split(l, at); len(after) > 0 && isRegular(after[0]) && after[0].Start-after[0].Slew < at {
		return &after[0]
	}
	return nil
}

// state returns what State shall return for a valid scene, beginning with s, as P16.2 says.
func (c scene) state(s state, l []visit, at int) (state, api.Errno) {
	if at < 0 || at > c.n.Slots {
		return state{}, api.ErrRange
	}
	d, e := plan.NewDesk(c.n, c.m, c.p)
	made, _ := split(l, at)
	for _, v := range made {
		if s, e = d.Step(s, v); e != api.OK {
			return state{}, e
		}
	}
	v := underWay(l, at)
	if v == nil {
		s.Slot = at
		return s, api.OK
	}
	r, found := prop.Find(c.p, v.Request)
	if !found {
		return state{}, api.ErrNone
	}
	goal, e := slew.Aim(c.n, r.At, v.Start)
	if e != api.OK {
		return state{}, e
	}
	p, _, e := slew.To(c.m, s.At, goal)
	if e != api.OK {
		return state{}, e
	}
	if at <= v.Start {
		s.Slot, s.At = v.Start, p
		return s, api.OK
	}
	p, e = slew.Track(c.m, c.n, p, r.At, v.Start, at)
	if e != api.OK {
		return state{}, e
	}
	s.Slot, s.At = at, p
	return s, api.OK
}

// again returns what Again shall return for a valid scene, as P16.3 says.
func (c scene) again(l []visit, at int) ([]visit, api.Errno) {
	s, e := c.state(plan.Start(c.m, c.p), l, at)
	if e != api.OK {
		return nil, e
	}
	rest, e := plan.From(c.n, c.m, c.p, s)
	if e != api.OK {
		return nil, e
	}
	made, _ := split(l, at)
	return append(slices.Clone(made), rest...), api.OK
}

// rest returns the visits that the rule makes from base on without some requests, as P16.5 says.
func (c scene) rest(base state, withdrawn []int) ([]visit, api.Errno) {
	p, s := programme{Proposals: c.p.Proposals}, state{Slot: base.Slot, At: base.At}
	for i, r := range c.p.Requests {
		if !slices.Contains(withdrawn, r.ID) {
			p.Requests, s.Starts = append(p.Requests, r), append(s.Starts, base.Starts[i])
		}
	}
	return plan.From(c.n, c.m, p, s)
}

// follow returns what Follow shall return for a valid scene, as P16.5 says, and how many visits were under way. Its base is a state of all requests.
func (c scene) follow(l []news) ([]visit, night, int, api.Errno) {
	base := plan.Start(c.m, c.p)
	rest, e := c.rest(base, nil)
	var all []visit
	var withdrawn []int
	broken := 0
	for _, x := range l {
		if e = replan.Check(c.n, c.p, x); e != api.OK {
			return nil, night{}, 0, e
		}
		c.n.Cloud = slices.Clone(c.n.Cloud)
		copy(c.n.Cloud[x.At:], x.Cloud)
		if e = prop.CheckNight(c.n); e != api.OK {
			return nil, night{}, 0, e
		}
		if x.At < base.Slot {
			return nil, night{}, 0, api.ErrRange
		}
		if underWay(rest, x.At) != nil {
			broken++
		}
		if base, e = c.state(base, rest, x.At); e != api.OK {
			return nil, night{}, 0, e
		}
		made, _ := split(rest, x.At)
		all, withdrawn = append(all, made...), append(withdrawn, x.Drop...)
		if rest, e = c.rest(base, withdrawn); e != api.OK {
			return nil, night{}, 0, e
		}
	}
	return append(all, rest...), c.n, broken, e
}
