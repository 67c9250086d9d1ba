package trig_test

import (
	"testing"

	"spyglass/api"
	"spyglass/bound"
	"spyglass/trig"
)

// outcome is all that the functions of the package return for a bound and two numbers.
type outcome struct {
	sin, cos   api.Fix
	sins, coss fixes
	angle      api.Arc
	err        api.Errno
}

// all calls every function of the package.
func all(a arcs, y, x int64) (r outcome) {
	r.sin, r.cos = trig.Sin(api.Arc(y)), trig.Cos(api.Arc(x))
	r.sins, r.coss = trig.SinBound(a), trig.CosBound(a)
	r.angle, r.err = trig.Atan2(y, x)
	return r
}

// figures returns numbers about every limit.
func figures() []int64 {
	list := []int64{0}
	for _, n := range []int64{1, turn / 8, turn / 4, turn / 2, 3 * turn / 4, turn, api.One, top} {
		list = append(list, n-1, n, n+1, -n-1, -n, -n+1)
	}
	return append(list, least, least+1, most-1, most, least+turn/4, most-turn/4, most-turn/4+1)
}

// fault returns what is wrong with an outcome whatever the arguments are.
func (r outcome) fault() string {
	switch {
	case r.sin < -api.One || r.sin > api.One || r.cos < -api.One || r.cos > api.One:
		return "Sin or Cos"
	case bound.Check(r.sins) != api.OK || bound.Check(r.coss) != api.OK || r.sins.Lo < -api.One || r.sins.Hi > api.One || r.coss.Lo < -api.One || r.coss.Hi > api.One:
		return "a bound"
	case r.angle < 0 || r.angle >= turn || r.err != api.OK && r.angle != 0:
		return "Atan2"
	}
	return ""
}

// Z1, Z2, Z3: no arguments make a function panic, results depend on the arguments alone, are in their range, and are 0 beside an error.
func TestAnyArguments(t *testing.T) {
	list := figures()
	for _, x := range list {
		for i, y := range list {
			a := arcs{Lo: api.Arc(x), Hi: api.Arc(y), Unknown: i%5 == 0}
			r := all(a, y, x)
			if fault := r.fault(); fault != "" {
				t.Fatalf("%d, %d: %s is wrong: %v", x, y, fault, r)
			}
			if i%3 == 0 && r != all(a, y, x) {
				t.Fatalf("%d, %d: two results", x, y)
			}
		}
	}
}
