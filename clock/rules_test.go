package clock_test

import (
	"slices"
	"testing"

	"spyglass/api"
	"spyglass/bound"
	"spyglass/clock"
)

// outcome is all that the functions of the package return for some arguments.
type outcome struct {
	checked, runChecked        api.Errno
	uniform, show, agreed      ticks
	synced                     clock.Clock
	read                       api.Tick
	syncErr, agreeErr, readErr api.Errno
}

// all calls every function of the package.
func all(c clock.Clock, r clock.Run, x, y api.Tick, told ticks) (o outcome) {
	l, shown := []clock.Clock{c, {}, c}, []api.Tick{x, y, y}
	o.checked, o.runChecked = clock.Check(c), clock.CheckRun(r)
	o.uniform, o.show = clock.Uniform(c, x), clock.Show(c, y)
	o.synced, o.syncErr = clock.Sync(c, x, y, told)
	o.agreed, o.agreeErr = clock.Agree(l[:x&3], shown[:y&3], int(x))
	o.read, o.readErr = clock.Reads(r, x)
	return o
}

// fault returns what is wrong with an outcome whatever the arguments are.
func (o outcome) fault() string {
	switch {
	case bound.Check(o.uniform) != api.OK || o.checked != api.OK && o.uniform != none:
		return "Uniform"
	case bound.Check(o.show) != api.OK || o.checked != api.OK && o.show != none:
		return "Show"
	case clock.Check(o.synced) != api.OK || o.syncErr != api.OK && o.synced != clock.Clock{}:
		return "Sync"
	case bound.Check(o.agreed) != api.OK || o.agreeErr != api.OK && o.agreed != ticks{}:
		return "Agree"
	case o.readErr != api.OK && o.read != 0 || o.runChecked != api.OK && o.readErr != o.runChecked:
		return "Reads"
	}
	return ""
}

// Z1, Z2, Z3: no arguments make a function panic, results depend on the arguments alone, are valid, and are zero values beside an error.
func TestAnyArguments(t *testing.T) {
	figures := []api.Tick{least, least + 1, -top - 1, -top, -end - 1, -end, -1_000_001, -1, 0, 1, 2, 3, 5, 1020, 1_000_000, clock.MaxLife, clock.MaxLife + 1, end - 1, end, end + 1, top, top + 1, most - 1, most}
	clocks := append(validClocks(), clock.Clock{At: none}, clock.Clock{Set: -end, At: none, Drift: 100_000})
	for c := range faultyClocks() {
		clocks = append(clocks, c)
	}
	// The order of a map is left to chance.
	slices.SortFunc(clocks, func(a, b clock.Clock) int {
		return slices.Compare([]api.Tick{a.Set, a.At.Lo, a.At.Hi, api.Tick(a.Drift)}, []api.Tick{b.Set, b.At.Lo, b.At.Hi, api.Tick(b.Drift)})
	})
	simulated := validRuns()
	for _, x := range faultyRuns() {
		simulated = append(simulated, x.r)
	}
	bounds := []ticks{none, {}, {Lo: 5, Hi: 9}, {Lo: -top, Hi: top}, {Lo: end, Hi: end}, {Lo: least, Hi: most}, {Lo: 1}, {Lo: 1, Hi: 1, Unknown: true}, {Lo: 5010, Hi: 5030}}
	for i, c := range clocks {
		for j, x := range figures {
			for k, y := range figures {
				r, told := simulated[(i+j+k)%len(simulated)], bounds[(i+2*j+k)%len(bounds)]
				o := all(c, r, x, y, told)
				if fault := o.fault(); fault != "" {
					t.Fatalf("%v, %v, %d, %d, %v: %s is wrong: %v", c, r, x, y, told, fault, o)
				}
				if o != all(c, r, x, y, told) {
					t.Fatalf("%v, %v, %d, %d, %v: two results", c, r, x, y, told)
				}
			}
		}
	}
}

// Z2: clocks, values and legs are left as they are, also behind their length.
func TestArgumentsUnchanged(t *testing.T) {
	clocks, shown := []clock.Clock{sure(100), set(9, 0, 50, 100_000), sure(200), set(7, 6, 5, 4)}, []api.Tick{10, 30, 10, 99}
	legs := []clock.Leg{{For: 100, Ppm: 5}, {For: 3, Ppm: -7}, {For: -1, Ppm: 9}}
	clocksBefore, shownBefore, legsBefore := slices.Clone(clocks), slices.Clone(shown), slices.Clone(legs)
	if b, e := clock.Agree(clocks[:2], shown[:2], 1); b != (ticks{Lo: 18, Hi: 111}) || e != api.OK {
		t.Errorf("Agree: %v, %d", b, e)
	}
	r := clock.Run{Legs: legs[:2]}
	if n, e := clock.Reads(r, 1000); clock.CheckRun(r) != api.OK || n != 1000 || e != api.OK {
		t.Errorf("Reads: %d, %d", n, e)
	}
	if !slices.Equal(clocks, clocksBefore) || !slices.Equal(shown, shownBefore) || !slices.Equal(legs, legsBefore) {
		t.Errorf("arguments are changed: %v, %v, %v", clocks, shown, legs)
	}
}

// Z4: nil and empty lists are the same.
func TestEmptyLists(t *testing.T) {
	a, e := clock.Agree(nil, []api.Tick{}, 0)
	b, f := clock.Agree([]clock.Clock{}, nil, 0)
	if a != none || b != none || e != api.OK || f != api.OK {
		t.Errorf("Agree: %v, %d and %v, %d", a, e, b, f)
	}
	empty := clock.Run{Set: 3, Legs: []clock.Leg{}}
	n, g := clock.Reads(empty, 5)
	if m, h := clock.Reads(run(3, 0), 5); n != m || g != h || clock.CheckRun(empty) != api.OK {
		t.Errorf("Reads: %d, %d and %d, %d", n, g, m, h)
	}
}
