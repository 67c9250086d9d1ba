package sphere_test

import (
	"math/big"
	"testing"

	"spyglass/api"
	"spyglass/bound"
	"spyglass/sphere"
)

// P9.12: the box of a direction is exact; of what is no direction nothing is known.
func TestBoxOf(t *testing.T) {
	if b := sphere.BoxOf(at(1, 0, -2)); b != (api.Box{X: from(1, 1), Z: from(-2, -2)}) {
		t.Errorf("BoxOf: %v", b)
	}
	for _, v := range directions() {
		x, y, z := api.Coord(v.X), api.Coord(v.Y), api.Coord(v.Z)
		if b := sphere.BoxOf(v); b != (api.Box{X: from(x, x), Y: from(y, y), Z: from(z, z)}) {
			t.Errorf("BoxOf(%v) is %v", v, b)
		}
	}
	for v := range faults() {
		if b := sphere.BoxOf(v); b != noBox {
			t.Errorf("BoxOf(%v) is %v", v, b)
		}
	}
}

// P9.12: boxes with directions in them, on their borders and next to them.
func TestInBox(t *testing.T) {
	b := api.Box{X: from(2, 4), Y: from(2, 4)}
	wide := api.Box{X: from(-top, top), Y: from(-top, top), Z: from(-top, top)}
	for i, c := range []struct {
		b  api.Box
		v  vec
		is bool
	}{
		{b, at(1, 1, 0), true}, {b, at(1, 2, 0), true}, {b, at(2, 1, 0), true}, {b, at(1, 3, 0), false}, {b, at(3, 1, 0), false}, {b, at(rim/2, rim-1, 0), true}, {b, at(rim/2-1, rim, 0), false}, {b, at(-1, -1, 0), false}, {b, at(1, 1, 1), false}, {b, at(1, 1, -1), false}, {b, at(1, 0, 0), false}, {b, at(0, 0, 1), false},
		{api.Box{X: from(2, 4), Y: noCoord, Z: noCoord}, at(1, 9, -9), true}, {api.Box{X: from(2, 4), Y: noCoord, Z: noCoord}, at(0, 9, -9), false}, {api.Box{X: from(-3, -1), Y: noCoord, Z: noCoord}, at(1, 9, 0), false}, {api.Box{X: from(-3, -1), Y: noCoord, Z: noCoord}, at(-1, 9, 0), true}, {noBox, at(-1, 2, 3), true},
		{api.Box{X: from(0, 9), Z: from(0, 5)}, at(1, 0, rim), true}, {api.Box{X: from(0, 9), Z: from(0, 5)}, at(1, 0, -rim), false}, {api.Box{Z: from(1, 1)}, at(0, 0, 3), true}, {api.Box{Z: from(1, 1)}, at(0, 0, -3), false}, {api.Box{}, at(1, 0, 0), false}, {api.Box{X: noCoord}, at(1, 0, 0), true}, {api.Box{X: noCoord}, at(-1, 0, 0), true}, {api.Box{X: noCoord}, at(-1, 1, 0), false}, {api.Box{X: from(-5, 5)}, at(-1, 0, 0), true},
		{api.Box{X: from(-5, 0), Y: from(-3, 0)}, at(-1, -1, 0), true}, {api.Box{X: from(-5, 0), Y: from(-3, 0)}, at(1, -1, 0), false}, {api.Box{X: from(-5, 0), Y: from(0, 3)}, at(-1, 0, 0), true}, {api.Box{X: from(-5, 0), Y: from(0, 3)}, at(0, 1, 0), true}, {api.Box{X: from(-5, 0), Y: from(0, 3)}, at(0, -1, 0), false},
		// All of a component, and the last number of one.
		{wide, at(rim, -rim, 1), true}, {wide, at(0, 0, -1), true}, {api.Box{X: from(top, top), Y: from(top, top), Z: from(-top, -top)}, at(1, 1, -1), true}, {api.Box{X: from(top, top), Y: from(top, top), Z: from(-top, 1-top)}, at(rim, rim, 1-rim), false}, {api.Box{X: from(top, top), Y: from(top-1, top-1)}, at(rim, rim-1, 0), false}, {api.Box{X: from(top, top), Y: from(top-1<<40, top-1<<40)}, at(rim, rim-1, 0), true}, {api.Box{X: from(1, 1), Y: from(top, top)}, at(1, rim, 0), false}, {api.Box{X: from(1<<40, 1<<40), Y: from(top, top)}, at(1, rim, 0), true},
	} {
		if sphere.InBox(c.b, c.v) != c.is {
			t.Errorf("case %d: InBox(%v, %v) is %v", i, c.b, c.v, !c.is)
		}
	}
	for v := range faults() {
		if sphere.InBox(noBox, v) || sphere.InBox(wide, v) || sphere.InBox(b, v) {
			t.Errorf("a box holds %v", v)
		}
	}
}

// P9.12: a bound that is not valid counts as unknown.
func TestInvalidBounds(t *testing.T) {
	for _, x := range invalid() {
		b, c, d := api.Box{X: x, Y: from(2, 4), Z: from(2, 4)}, api.Box{X: from(2, 4), Y: x, Z: from(2, 4)}, api.Box{X: from(2, 4), Y: from(2, 4), Z: x}
		for _, n := range []int64{-rim, -7, 0, 1, 7, rim} {
			if !sphere.InBox(b, at(n, 1, 2)) || !sphere.InBox(c, at(2, n, 1)) || !sphere.InBox(d, at(1, 1, n)) || sphere.InBox(b, at(n, 1, 3)) || sphere.InBox(c, at(3, n, 1)) || sphere.InBox(d, at(-1, -1, n)) {
				t.Errorf("%v does not count as unknown beside %d", x, n)
			}
		}
		for _, box := range []api.Box{b, c, d} {
			if sphere.Inside(box, api.Box{X: from(2, 4), Y: from(2, 4), Z: from(2, 4)}) || !sphere.Inside(box, noBox) || !sphere.Inside(box, box) {
				t.Errorf("%v is not inside the right boxes", box)
			}
			if ra, dec := sphere.Range(box); ra != noArc || dec != noArc {
				t.Errorf("Range(%v) is %v, %v", box, ra, dec)
			}
		}
	}
}

// held reports whether b holds v, by trying all factors at which an end is reached, and 1.
func held(b api.Box, v vec) bool {
	list := []*big.Rat{big.NewRat(1, 1)}
	bounds, numbers := []coords{b.X, b.Y, b.Z}, []int64{v.X, v.Y, v.Z}
	for i, c := range bounds {
		if numbers[i] != 0 {
			list = append(list, big.NewRat(int64(c.Lo), numbers[i]), big.NewRat(int64(c.Hi), numbers[i]))
		}
	}
	for _, factor := range list {
		fits := factor.Sign() > 0
		for i, c := range bounds {
			n := new(big.Rat).Mul(factor, big.NewRat(numbers[i], 1))
			fits = fits && (c.Unknown || n.Cmp(big.NewRat(int64(c.Lo), 1)) >= 0 && n.Cmp(big.NewRat(int64(c.Hi), 1)) <= 0)
		}
		if fits {
			return true
		}
	}
	return false
}

// smallBoxes returns boxes with small numbers, of every sign, and unknown bounds.
func smallBoxes() []api.Box {
	bounds := []coords{noCoord, from(0, 0), from(-2, 3), from(1, 3), from(3, 3), from(0, 2), from(-2, 0), from(-3, -1)}
	var list []api.Box
	for _, x := range bounds {
		for _, y := range bounds {
			for _, z := range bounds {
				list = append(list, api.Box{X: x, Y: y, Z: z})
			}
		}
	}
	return list
}

// P9.12: comparison with the definition, for small boxes, and for boxes about directions.
func TestInBoxByDefinition(t *testing.T) {
	var list []vec
	for n := range int64(125) {
		if v := at(n/25-2, n/5%5-2, n%5-2); n%3 == 0 && v != (vec{}) {
			list = append(list, v)
		}
	}
	for _, b := range smallBoxes() {
		for _, v := range list {
			if sphere.InBox(b, v) != held(b, v) {
				t.Fatalf("InBox(%v, %v) is %v", b, v, !held(b, v))
			}
		}
	}
	holding := 0
	for i := range uint64(3000) {
		b, v := boxAbout(i)
		n := drawn(i+77, 3)
		for _, w := range []vec{v, at(v.X+n.X, v.Y, v.Z), at(v.X, v.Y+n.Y, v.Z+n.Z)} {
			if w == (vec{}) || max(w.X, -w.X, w.Y, -w.Y, w.Z, -w.Z) > rim {
				continue
			}
			if sphere.InBox(b, w) != held(b, w) {
				t.Fatalf("InBox(%v, %v) is %v", b, w, !held(b, w))
			}
			if held(b, w) {
				holding++
			}
		}
	}
	if holding < 2000 {
		t.Errorf("only %d directions are held", holding)
	}
}

// boxAbout returns a box of some size about a multiple of a direction, or with it on its border, and this direction.
func boxAbout(i uint64) (api.Box, vec) {
	v := drawn(i, 1<<(i%21))
	factor := int64(1) << chance(i, 40)
	if i%3 == 0 {
		factor = 1 + chance(i, factor)
	}
	width := int64(1) << chance(i+50, 45)
	about := func(n int64, state uint64) coords {
		b := from(api.Coord(n*factor-chance(state, 2)*chance(state+1, width)), api.Coord(n*factor+chance(state+2, 2)*chance(state+3, width)))
		return bound.Norm(from(max(b.Lo, -top), min(b.Hi, top)))
	}
	return api.Box{X: about(v.X, 7*i), Y: about(v.Y, 7*i+1000), Z: about(v.Z, 7*i+2000)}, v
}

// P9.12: each bound counts, on each side.
func TestInside(t *testing.T) {
	outer := api.Box{X: from(-2, 5), Y: from(1, 8), Z: from(-9, -3)}
	for i, c := range []struct {
		b  api.Box
		is bool
	}{
		{outer, true}, {api.Box{X: from(0, 0), Y: from(8, 8), Z: from(-9, -4)}, true}, {api.Box{X: from(-3, 5), Y: from(1, 8), Z: from(-9, -3)}, false}, {api.Box{X: from(-2, 6), Y: from(1, 8), Z: from(-9, -3)}, false}, {api.Box{X: from(-2, 5), Y: from(0, 8), Z: from(-9, -3)}, false}, {api.Box{X: from(-2, 5), Y: from(1, 9), Z: from(-9, -3)}, false}, {api.Box{X: from(-2, 5), Y: from(1, 8), Z: from(-10, -3)}, false}, {api.Box{X: from(-2, 5), Y: from(1, 8), Z: from(-9, -2)}, false}, {noBox, false},
	} {
		if sphere.Inside(c.b, outer) != c.is || !sphere.Inside(c.b, noBox) {
			t.Errorf("case %d: Inside(%v) is %v", i, c.b, !c.is)
		}
	}
	for _, a := range smallBoxes() {
		for _, b := range smallBoxes() {
			if want := bound.Inside(a.X, b.X) && bound.Inside(a.Y, b.Y) && bound.Inside(a.Z, b.Z); sphere.Inside(a, b) != want {
				t.Fatalf("Inside(%v, %v) is %v", a, b, !want)
			}
		}
	}
}
