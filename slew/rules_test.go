package slew_test

import (
	"reflect"
	"testing"

	"spyglass/api"
	"spyglass/prop"
	"spyglass/slew"
)

// P14.1, P14.6: the limits of the package.
func TestLimits(t *testing.T) {
	if slew.MinSpeed != 1<<24 || slew.MaxSpeed != 1<<30 || slew.MaxRamp != 64 || slew.Jump != 1<<30 || slew.MaxTravel != 1<<20 {
		t.Error("a limit is wrong")
	}
}

// outcome is all that the functions of the package return for some arguments.
type outcome struct {
	axisErr, mountErr, targetErr, stepsErr, toErr, aimErr, trackErr api.Errno
	in                                                              bool
	target, speed                                                   int64
	steps, moved, slots                                             int
	goal, aim, tracked                                              pose
}

// all calls every function of the package.
func all(m mount, n night, p, q pose, v vec, from, to int) (o outcome) {
	o.axisErr, o.mountErr = slew.CheckAxis(m.Az), slew.CheckMount(m)
	o.in, o.speed = slew.In(m.Az, p.Az), slew.Fastest(m.Az, q.Az)
	o.target, o.targetErr = slew.Target(m.Az, p.Az, api.Arc(q.Az))
	o.steps, o.stepsErr = slew.Steps(m.Az, p.Az, q.Az)
	o.goal, o.moved, o.toErr = slew.To(m, p, q)
	o.slots = slew.Slots(n, from)
	o.aim, o.aimErr = slew.Aim(n, v, from)
	o.tracked, o.trackErr = slew.Track(m, n, p, v, from, to)
	return o
}

// fault returns what is wrong with an outcome, whatever the arguments are.
func (o outcome) fault(n night) string {
	nightErr := prop.CheckNight(n)
	switch {
	case o.axisErr != api.OK && (o.mountErr != o.axisErr || o.targetErr != o.axisErr || o.stepsErr != o.axisErr || o.speed != 0):
		return "an axis that is not valid"
	case o.mountErr != api.OK && (o.toErr != o.mountErr || o.trackErr != o.mountErr):
		return "a mount that is not valid"
	case nightErr != api.OK && (o.aimErr != nightErr || o.slots != 0 || o.mountErr == api.OK && o.trackErr != nightErr):
		return "a night that is not valid"
	case o.targetErr != api.OK && o.target != 0 || o.stepsErr != api.OK && o.steps != 0 || o.toErr != api.OK && (o.goal != pose{} || o.moved != 0) || o.aimErr != api.OK && o.aim != (pose{}) || o.trackErr != api.OK && o.tracked != (pose{}):
		return "a result beside an error"
	case o.speed < 0 || o.speed > fast || o.steps < 0 || o.moved < 0 || o.slots < 0 || o.aim.Az < 0 || o.aim.Az >= turn || max(o.aim.Alt, -o.aim.Alt) > turn/4:
		return "a result"
	}
	return ""
}

// anything returns arguments that have figures in all their fields.
func anything(figures []int64, i, j, k int) (mount, night, pose, pose, vec) {
	pick := func(n int) int64 { return figures[(i+n*j+n*n*k)%len(figures)] }
	some := func(n int) axis { return axis{Min: pick(n), Max: pick(n + 1), Speed: pick(n + 2), Accel: pick(n + 3)} }
	return mount{Az: some(0), Alt: some(4), Park: to(pick(8), pick(9))}, night{
		Site: api.Site{Lat: api.Arc(pick(0)), Lon: api.Arc(pick(1))}, Spin: api.Rate{At: api.Tick(pick(2)), Angle: api.Arc(pick(3)), Arcs: api.Frac{Num: pick(4), Den: pick(5)}},
		Begin: api.Tick(pick(6)), Long: api.Tick(pick(7)), Slots: int(pick(8)), Sun: at(pick(9), pick(10), pick(11)), Moon: at(pick(12), pick(13), pick(14)), Dusk: api.Fix(pick(15)), Cloud: make([]int, i*7%70),
	}, to(pick(10), pick(11)), to(pick(12), pick(13)), at(pick(14), pick(15), pick(16))
}

// Z1, Z2, Z3: no arguments make a function panic, results depend on the arguments alone, and are zero values beside an error.
func TestAnyArguments(t *testing.T) {
	figures := []int64{least, least + 1, -limit - 1, -limit, -turn, -1, 0, 1, 2, 5, 64, 60_000, rim, 1 << 18, slow, fast, turn/2 + 1, turn, limit, limit + 1, most - 1, most}
	for i, a := range figures {
		for j, b := range figures {
			for k := range figures[:12] {
				m, n, p, q, v := anything(figures, i, j, k)
				if k&1 == 1 {
					n = evening()
				}
				if k&2 == 2 {
					m = wide()
				}
				if k&4 == 4 {
					p, q, v = to(a%limit, b%turn), to(a, b), at(a%rim, b%rim, 1)
				}
				o := all(m, n, p, q, v, int(a), int(b))
				if fault := o.fault(n); fault != "" {
					t.Fatalf("%v, %v, %v, %v, %v, %d, %d: %s is wrong: %v", m, n, p, q, v, a, b, fault, o)
				}
				if o != all(m, n, p, q, v, int(a), int(b)) {
					t.Fatalf("%v, %v, %v, %v, %v, %d, %d: two results", m, n, p, q, v, a, b)
				}
			}
		}
	}
}

// Z2: nights are left as they are, also behind the length of their clouds.
func TestUnchanged(t *testing.T) {
	n, m := evening(), evening()
	n.Cloud, m.Cloud = []int{0, 4, 2, 9, -1}, []int{0, 4, 2, 9, -1}
	for k := range 6 {
		part := n
		part.Cloud, part.Slots = n.Cloud[:k], k
		if o := all(wide(), part, pose{}, pose{}, at(1, 2, 3), 0, k); (o.aimErr == api.OK) != (1 <= k && k <= 3) || !reflect.DeepEqual(n, m) {
			t.Fatalf("%v: got %v", n, o)
		}
	}
}

// Z4: nil and empty lists are the same.
func TestEmpty(t *testing.T) {
	n, m := evening(), evening()
	n.Cloud, m.Cloud = nil, []int{}
	a, b := all(wide(), n, pose{}, pose{}, at(1, 2, 3), 0, 1), all(wide(), m, pose{}, pose{}, at(1, 2, 3), 0, 1)
	if a != b || a.aimErr != api.ErrForm {
		t.Errorf("empty lists have other results than nil: %v, %v", a, b)
	}
}
