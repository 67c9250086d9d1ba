package sphere_test

import (
	"testing"

	"spyglass/api"
	"spyglass/bound"
	"spyglass/sphere"
)

// outcome is all that the functions of the package return for some arguments.
type outcome struct {
	checked, plateChecked                                    api.Errno
	of, grown, fitted, spun                                  vec
	ra, dec, separation                                      api.Arc
	cosine                                                   fixes
	within, held, inside, has                                bool
	nearer                                                   int
	rows                                                     [3][3]int64
	n                                                        int64
	point                                                    api.Point
	ray, box                                                 api.Box
	plate                                                    api.Plate
	ras, decs                                                arcs
	ofErr, fitErr, atErr, sepErr, pixelErr, rayErr, plateErr api.Errno
}

// all calls every function of the package.
func all(p api.Plate, v, w vec, b api.Box, x, y int64) (o outcome) {
	o.checked, o.plateChecked = sphere.Check(v), sphere.CheckPlate(p)
	o.of, o.ofErr = sphere.Of(api.Arc(x), api.Arc(y))
	o.grown = sphere.Grow(v)
	o.fitted, o.fitErr = sphere.Fit(v)
	o.ra, o.dec, o.atErr = sphere.At(v)
	o.cosine, o.within = sphere.Cosine(v, w), sphere.Within(v, w, api.Arc(x))
	o.separation, o.sepErr = sphere.Separation(v, w)
	o.nearer = sphere.Nearer(v, w, w, at(x, y, 5))
	o.rows, o.n = sphere.Rows(p)
	o.spun = sphere.Spin(p, v)
	o.point, o.pixelErr = sphere.Pixel(p, int(x), int(y), v)
	o.ray, o.rayErr = sphere.Ray(p, int(y), int(x), bound.As[api.Sub](b.X), subs{Lo: api.Sub(x), Hi: api.Sub(y)})
	o.plate, o.plateErr = sphere.Plate(api.Arc(x), api.Arc(y), api.Arc(v.X))
	o.box, o.held, o.inside = sphere.BoxOf(v), sphere.InBox(b, v), sphere.Inside(b, sphere.BoxOf(w))
	o.ras, o.decs = sphere.Range(b)
	o.has = sphere.HasRa(bound.As[api.Arc](b.Y), api.Arc(x))
	return o
}

// fault returns what is wrong with an outcome whatever the arguments are.
func (o outcome) fault() string {
	valid := o.checked == api.OK
	switch {
	case valid != (o.grown != vec{}) || valid && sphere.Check(o.grown) != api.OK:
		return "Grow"
	case o.ofErr == api.OK && sphere.Check(o.of) != api.OK || o.ofErr != api.OK && o.of != vec{}:
		return "Of"
	case o.fitErr == api.OK && sphere.Check(o.fitted) != api.OK || o.fitErr != api.OK && o.fitted != vec{}:
		return "Fit"
	case o.atErr != o.checked || !valid && (o.ra != 0 || o.dec != 0) || o.ra < 0 || o.ra >= turn || o.dec < -quarter || o.dec > quarter:
		return "At"
	case bound.Check(o.cosine) != api.OK || o.cosine.Lo < -api.One || o.cosine.Hi > api.One || !valid && (!o.cosine.Unknown || o.within || o.nearer != 0 || o.held):
		return "Cosine, Within, Nearer or InBox"
	case o.separation < 0 || o.separation > turn/2 || o.sepErr != api.OK && o.separation != 0 || !valid && o.sepErr != o.checked:
		return "Separation"
	case o.plateChecked != api.OK && (o.rows != [3][3]int64{} || o.n != 0 || o.spun != vec{}) || !valid && o.spun != vec{}:
		return "Rows or Spin"
	case o.pixelErr != api.OK && o.point != api.Point{} || o.plateErr != api.OK && o.plate != api.Plate{} || o.plateErr == api.OK && sphere.CheckPlate(o.plate) != api.OK:
		return "Pixel or Plate"
	case o.rayErr != api.OK && o.ray != api.Box{} || !sound(o.ray) || !sound(o.box):
		return "Ray or BoxOf"
	case bound.Check(o.ras) != api.OK || bound.Check(o.decs) != api.OK || o.decs.Unknown && !o.ras.Unknown:
		return "Range"
	}
	return ""
}

// sound reports whether the bounds of a box are valid.
func sound(b api.Box) bool {
	return bound.Check(b.X) == api.OK && bound.Check(b.Y) == api.OK && bound.Check(b.Z) == api.OK
}

// Z1, Z2, Z3: no arguments make a function panic, results depend on the arguments alone, are valid, and are zero values beside an error.
func TestAnyArguments(t *testing.T) {
	figures := []int64{least, least + 1, -top - 1, -top, -turn, -quarter - 1, -quarter, -rim - 1, -rim, -1024, -1, 0, 1, 2, 31, 32, 33, 1024, 1025, rim, rim + 1, quarter, quarter + 1, turn / 2, turn - 1, turn, top, top + 1, most - 1, most}
	bounds := append(invalid(), from(0, 0), from(1, 1), from(-1, 1), from(-top, top), from(top, top), from(-top, 1-top), from(2, 9))
	wholes, good := append(directions()[:9], drawn(1, rim)), plates()
	bad := []api.Plate{{}, {A: 1025}, {B: least}, {C: most}, {D: -1025}}
	for i, x := range figures {
		for j, y := range figures {
			for k, z := range figures {
				v, w := at(x, y, z), wholes[(i+j+k)%len(wholes)]
				if k%3 == 0 {
					v = wholes[(i+j)%len(wholes)]
				}
				p := good[(i+2*j+k)%len(good)]
				if (i+j+k)%4 == 0 {
					p = bad[i%len(bad)]
				}
				b := api.Box{X: bounds[(i+k)%len(bounds)], Y: bounds[(j+2*k)%len(bounds)], Z: bounds[(i+3*j)%len(bounds)]}
				o := all(p, v, w, b, x, z)
				if fault := o.fault(); fault != "" {
					t.Fatalf("%v, %v, %v, %v, %d, %d: %s is wrong: %v", p, v, w, b, x, z, fault, o)
				}
				if k%5 == 0 && o != all(p, v, w, b, x, z) {
					t.Fatalf("%v, %v, %v, %v, %d, %d: two results", p, v, w, b, x, z)
				}
			}
		}
	}
}
