package horizon_test

import (
	"slices"
	"testing"

	"spyglass/api"
	"spyglass/bound"
	"spyglass/horizon"
	"spyglass/sphere"
)

// outcome is all that the functions of the package return for some arguments.
type outcome struct {
	siteChecked, bendsChecked, aimErr api.Errno
	height                            fixes
	pose                              api.Pose
	refracted                         arcs
}

// all calls every function of the package.
func all(s api.Site, a arcs, v vec, l []horizon.Bend) (o outcome) {
	o.siteChecked, o.bendsChecked = horizon.CheckSite(s), horizon.CheckBends(l)
	o.height = horizon.Height(s, a, v)
	o.pose, o.aimErr = horizon.Aim(s, a.Lo, v)
	o.refracted = horizon.Refract(l, a)
	return o
}

// fault returns what is wrong with an outcome, whatever the other arguments are.
func (o outcome) fault(a arcs, v vec) string {
	valid := o.siteChecked == api.OK && sphere.Check(v) == api.OK
	known := bound.Check(a) == api.OK && !a.Unknown
	switch {
	case bound.Check(o.height) != api.OK || o.height.Lo < -one || o.height.Hi > one || !o.height.Unknown && !(valid && known):
		return "Height"
	case valid != (o.aimErr == api.OK) || !valid && o.pose != api.Pose{} || o.pose.Az < 0 || o.pose.Az >= turn || o.pose.Alt < -quarter || o.pose.Alt > quarter:
		return "Aim"
	case bound.Check(o.refracted) != api.OK || !o.refracted.Unknown && !(o.bendsChecked == api.OK && known):
		return "Refract"
	}
	return ""
}

// Z1, Z2, Z3: no arguments make a function panic, results depend on the arguments alone, are valid, and are zero values beside an error.
func TestAnyArguments(t *testing.T) {
	figures := []api.Arc{least, least + 1, -top - 1, -top, -turn, -quarter - 1, -quarter, -1, 0, 1, 2, quarter, quarter + 1, turn / 2, turn - 1, turn, top - turn, top, top + 1, most - 1, most}
	vectors := directions()[:12]
	for _, n := range []int64{least, -rim - 1, -rim, 0, rim, rim + 1, most} {
		vectors = append(vectors, at(n, 0, 0), at(5, n, n), at(-rim, rim, n))
	}
	tables := [][]horizon.Bend{nil, table(1), table(6), table(64), {bend(-quarter, -top, top), bend(quarter, 0, top)}}
	for _, c := range faultyTables() {
		tables = append(tables, c.l)
	}
	for i, x := range figures {
		for j, y := range figures {
			for k, z := range figures {
				s, a := api.Site{Lat: x, Lon: y}, arcs{Lo: z, Hi: figures[(i+2*j+k)%len(figures)], Unknown: (i+j+k)%9 == 0}
				if k%2 == 0 {
					s = sites()[(i+j)%10]
				}
				v, l := vectors[(i+3*j+k)%len(vectors)], tables[(3*i+j+k)%len(tables)]
				o := all(s, a, v, l)
				if fault := o.fault(a, v); fault != "" {
					t.Fatalf("%v, %v, %v, %v: %s is wrong: %v", s, a, v, l, fault, o)
				}
				if o != all(s, a, v, l) {
					t.Fatalf("%v, %v, %v, %v: two results", s, a, v, l)
				}
			}
		}
	}
}

// Z2: tables are left as they are, also behind their length.
func TestTableUnchanged(t *testing.T) {
	l := append(table(6), bend(-99, 5, 2))
	before := slices.Clone(l)
	if e := horizon.CheckBends(l[:5]); e != api.OK {
		t.Errorf("CheckBends is %d", e)
	}
	if b := horizon.Refract(l[:5], arcs{Lo: -5, Hi: 9}); b.Unknown {
		t.Error("Refract knows nothing")
	}
	if !slices.Equal(l, before) {
		t.Errorf("the table is changed: %v", l)
	}
}

// Z4: nil and empty tables are the same.
func TestEmptyTables(t *testing.T) {
	empty := []horizon.Bend{}
	if horizon.CheckBends(empty) != horizon.CheckBends(nil) || horizon.Refract(empty, arcs{}) != horizon.Refract(nil, arcs{}) {
		t.Error("the results differ")
	}
}
