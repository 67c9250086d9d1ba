package sphere_test

import (
	"math"
	"testing"

	"spyglass/api"
	"spyglass/sphere"
	"spyglass/trig"
)

// Chapter 9: the greatest errors are those of the document.
func TestLimits(t *testing.T) {
	if sphere.DecErr != trig.AtanErr+2 || sphere.PlateErr != 1<<21 {
		t.Error("a limit is wrong")
	}
}

// P9.1: directions, and each error, also beside components that are permitted.
func TestCheck(t *testing.T) {
	for _, v := range append(directions(), at(-rim, 0, 0), at(0, rim, 0), at(0, -rim, 0), at(0, 0, rim), at(0, 0, -1)) {
		if e := sphere.Check(v); e != api.OK {
			t.Errorf("Check(%v) is %d", v, e)
		}
	}
	for v, want := range faults() {
		if e := sphere.Check(v); e != want {
			t.Errorf("Check(%v) is %d, not %d", v, e, want)
		}
	}
}

// P9.1: known multiples, and the greatest one that is a direction for each component and sign.
func TestGrow(t *testing.T) {
	for _, c := range []struct{ v, want vec }{
		{at(3, -1, 0), at(786432, -262144, 0)}, {at(1, 0, 0), at(rim, 0, 0)}, {at(0, -1, 0), at(0, -rim, 0)}, {at(0, 0, 1), at(0, 0, rim)}, {at(rim, 1, -1), at(rim, 1, -1)}, {at(1, rim/2+1, 0), at(1, rim/2+1, 0)}, {at(1, 0, -rim/2-1), at(1, 0, -rim/2-1)}, {at(1, 0, -rim/2), at(2, 0, -rim)}, {at(rim/4+1, 5, 0), at(rim/2+2, 10, 0)},
	} {
		if g := sphere.Grow(c.v); g != c.want {
			t.Errorf("Grow(%v) is %v, not %v", c.v, g, c.want)
		}
	}
	for _, v := range directions() {
		want := v
		for k := int64(1); k <= rim; k *= 2 {
			if w := at(k*v.X, k*v.Y, k*v.Z); sphere.Check(w) == api.OK {
				want = w
			}
		}
		if g := sphere.Grow(v); g != want {
			t.Errorf("Grow(%v) is %v, not %v", v, g, want)
		}
	}
	for v := range faults() {
		if g := sphere.Grow(v); g != (vec{}) {
			t.Errorf("Grow(%v) is %v", v, g)
		}
	}
}

// P9.1: known results, directions that stay as they are, and what is no direction.
func TestFit(t *testing.T) {
	for _, c := range []struct{ v, want vec }{
		{at(3<<20, -5, 1), at(786432, -1, 0)}, {at(rim+1, 1, -1), at(rim/2, 0, 0)}, {at(0, -rim-1, 3), at(0, -rim/2, 1)}, {at(5, -5, 2*rim), at(2, -2, rim)}, {at(7, -7, 2*rim+2), at(1, -1, rim/2)}, {at(2*rim+1, 0, 0), at(rim, 0, 0)}, {at(least, 0, 0), at(-rim, 0, 0)}, {at(0, most, least), at(0, 1<<19-1+1<<19, -rim)}, {at(0, 0, most), at(0, 0, rim-1)}, {at(most, -1<<43, 1<<42), at(rim-1, -1, 0)},
	} {
		if g, e := sphere.Fit(c.v); g != c.want || e != api.OK {
			t.Errorf("Fit(%v) is %v, %d, not %v", c.v, g, e, c.want)
		}
	}
	for _, v := range directions() {
		if g, e := sphere.Fit(v); g != v || e != api.OK {
			t.Errorf("Fit(%v) is %v, %d", v, g, e)
		}
	}
	for i := range uint64(200) {
		v := at(around(i, 1<<(i%62)), around(i+1000, 1<<(i%59)), around(i+2000, 1<<(i%61)))
		want, k := v, int64(1)
		for sphere.Check(want) == api.ErrRange {
			k *= 2
			want = at(v.X/k, v.Y/k, v.Z/k)
		}
		if g, e := sphere.Fit(v); v != (vec{}) && (g != want || e != api.OK) {
			t.Errorf("Fit(%v) is %v, %d, not %v", v, g, e, want)
		}
	}
	if g, e := sphere.Fit(vec{}); g != (vec{}) || e != api.ErrNone {
		t.Errorf("Fit of nothing: %v, %d", g, e)
	}
}

// heavens returns right ascensions and declinations of every sort.
func heavens() [][2]api.Arc {
	var list [][2]api.Arc
	for _, ra := range []api.Arc{0, 1, turn / 8, quarter - 1, quarter, turn / 2, turn/2 + 1, 3 * quarter, 7 * turn / 8, turn - 1} {
		for _, dec := range []api.Arc{-quarter, 1 - quarter, -turn / 8, -1, 0, 1, turn / 12, quarter - 1, quarter} {
			list = append(list, [2]api.Arc{ra, dec})
		}
	}
	for i := range uint64(300) {
		list = append(list, [2]api.Arc{api.Arc(chance(i, turn)), api.Arc(around(i+500, quarter))})
	}
	return list
}

// P9.2: directions that follow from the rule at once.
func TestOf(t *testing.T) {
	const mid = 741455 // 2^20 times the root of 1/2
	for _, c := range []struct {
		ra, dec api.Arc
		want    vec
	}{
		{0, 0, at(rim, 0, 0)}, {quarter, 0, at(0, rim, 0)}, {turn / 2, 0, at(-rim, 0, 0)}, {3 * quarter, 0, at(0, -rim, 0)}, {5, quarter, at(0, 0, rim)}, {turn - 1, -quarter, at(0, 0, -rim)}, {turn / 8, 0, at(mid, mid, 0)}, {turn / 2, turn / 8, at(-mid, 0, mid)}, {3 * quarter, -turn / 8, at(0, -mid, -mid)}, {turn / 8, turn / 8, at(rim/2, rim/2, mid)}, {turn / 12, 0, at(908093, rim/2, 0)}, {0, -turn / 12, at(908093, 0, -rim/2)},
		// Sin(326) is 512: halves are rounded away from 0.
		{0, 326, at(rim, 0, 1)}, {0, -326, at(rim, 0, -1)}, {0, 325, at(rim, 0, 0)}, {326, 0, at(rim, 1, 0)}, {turn - 326, 0, at(rim, -1, 0)}, {quarter + 326, 0, at(-1, rim, 0)},
	} {
		if v, e := sphere.Of(c.ra, c.dec); v != c.want || e != api.OK {
			t.Errorf("Of(%d, %d) is %v, %d, not %v", c.ra, c.dec, v, e, c.want)
		}
	}
}

// P9.2: right ascensions and declinations out of range.
func TestOfErrors(t *testing.T) {
	for _, c := range [][2]api.Arc{{-1, 0}, {turn, 0}, {0, quarter + 1}, {0, -quarter - 1}, {least, 0}, {most, 0}, {0, least}, {0, most}, {turn, quarter + 1}} {
		if v, e := sphere.Of(c[0], c[1]); v != (vec{}) || e != api.ErrRange {
			t.Errorf("Of(%d, %d) is %v, %d", c[0], c[1], v, e)
		}
	}
}

// P9.2: the components are those of the rule, and the direction is near the real one.
func TestOfByRule(t *testing.T) {
	for _, c := range heavens() {
		v, e := sphere.Of(c[0], c[1])
		cos, sin := long(int64(trig.Cos(c[1]))), long(int64(trig.Sin(c[1])))
		want := at(nearest(times(cos, long(int64(trig.Cos(c[0])))), long(1<<40)), nearest(times(cos, long(int64(trig.Sin(c[0])))), long(1<<40)), nearest(sin, long(1<<10)))
		if v != want || e != api.OK || sphere.Check(v) != api.OK {
			t.Errorf("Of(%d, %d) is %v, %d, not %v", c[0], c[1], v, e, want)
		}
		if gap := between(floats(v), toward(c[0], c[1])); gap >= 600 {
			t.Errorf("Of(%d, %d) is off by %f", c[0], c[1], gap)
		}
	}
}

// P9.3: angles that follow from the rule at once.
func TestAt(t *testing.T) {
	for _, c := range []struct {
		v       vec
		ra, dec api.Arc
	}{
		{at(1, 0, 0), 0, 0}, {at(1, 1, 0), turn / 8, 0}, {at(0, 5, 0), quarter, 0}, {at(-7, 0, 0), turn / 2, 0}, {at(-1, -1, 0), 5 * turn / 8, 0}, {at(0, -1, 0), 3 * quarter, 0}, {at(0, 0, 1), 0, quarter}, {at(0, 0, -3), 0, -quarter}, {at(0, 0, rim), 0, quarter}, {at(1, 0, 1), 0, turn / 8}, {at(-1, 0, -1), turn / 2, -turn / 8}, {at(0, -2, -2), 3 * quarter, -turn / 8}, {at(0, 1, 1), quarter, turn / 8},
		// The tangents are 3/4 and 4/3.
		{at(4, 3, 0), 439875012, 0}, {at(3, 4, 0), quarter - 439875012, 0}, {at(4, 0, 3), 0, 439875012}, {at(4, 0, -3), 0, -439875012}, {at(0, 3, -4), quarter, 439875012 - quarter},
		// The tangent is 1024 / 1518500249; Sin(461) is 724 and Sin(462) is 726, beside a Cos of nearly 2^30.
		{at(rim, rim, 1), turn / 8, 461}, {at(rim, rim, -1), turn / 8, -461},
	} {
		if ra, dec, e := sphere.At(c.v); ra != c.ra || dec != c.dec || e != api.OK {
			t.Errorf("At(%v) is %d, %d, %d, not %d, %d", c.v, ra, dec, e, c.ra, c.dec)
		}
	}
	for v, want := range faults() {
		if ra, dec, e := sphere.At(v); ra != 0 || dec != 0 || e != want {
			t.Errorf("At(%v) is %d, %d, %d", v, ra, dec, e)
		}
	}
}

// manyDirections returns directions of every sort, and many without structure.
func manyDirections() []vec {
	list := directions()
	for i := range uint64(500) {
		list = append(list, drawn(i+5000, rim), drawn(i+6000, 1+int64(i)))
		v := drawn(i+7000, rim)
		// Near the equator and near the poles.
		list = append(list, at(v.X, v.Y, v.Z%9), at(v.X%9, v.Y%9, v.Z|1))
	}
	return list
}

// P9.3: the angles are those of the rule, and differ little from the real ones.
func TestAtByRule(t *testing.T) {
	for _, v := range manyDirections() {
		ra, dec, e := sphere.At(v)
		g := sphere.Grow(v)
		wantRa, _ := trig.Atan2(g.Y, g.X)
		flat := times(long(1<<20), scalar(at(g.X, g.Y, 0), g))
		wantDec, _ := trig.Atan2(1024*g.Z, flat.Sqrt(flat).Int64())
		if g.Z < 0 {
			wantDec -= turn
		}
		if wantDec == -turn {
			wantDec = 0
		}
		if ra != wantRa || dec != wantDec || e != api.OK {
			t.Fatalf("At(%v) is %d, %d, %d, not %d, %d", v, ra, dec, e, wantRa, wantDec)
		}
		x, y, z := float64(v.X), float64(v.Y), float64(v.Z)
		if gap := math.Remainder(float64(ra)-inArcs(math.Atan2(y, x)), turn); math.Abs(gap) >= trig.AtanErr && (x != 0 || y != 0) {
			t.Errorf("the right ascension of %v is off by %f", v, gap)
		}
		if gap := float64(dec) - inArcs(math.Atan2(z, math.Hypot(x, y))); math.Abs(gap) >= sphere.DecErr || dec < -quarter || dec > quarter {
			t.Errorf("the declination of %v is off by %f", v, gap)
		}
	}
}
