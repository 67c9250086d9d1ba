package trig_test

import (
	"testing"

	"spyglass/api"
	"spyglass/bound"
	"spyglass/trig"
)

// P6.3: bounds whose ends are at known values.
func TestBounds(t *testing.T) {
	const one, mid = api.One, 759250125
	full := fixes{Lo: -one, Hi: one}
	for i, c := range []struct {
		a        arcs
		sin, cos fixes
	}{
		{arcs{Lo: 0, Hi: turn / 8}, fixes{Lo: -1, Hi: mid + 1}, fixes{Lo: mid - 1, Hi: one}},
		{arcs{Lo: turn / 8, Hi: 3 * turn / 8}, fixes{Lo: mid - 1, Hi: one}, fixes{Lo: -mid - 1, Hi: mid + 1}},
		{arcs{Lo: 5 * turn / 8, Hi: 7 * turn / 8}, fixes{Lo: -one, Hi: -mid + 1}, fixes{Lo: -mid - 1, Hi: mid + 1}},
		{arcs{Lo: 3 * turn / 8, Hi: 5 * turn / 8}, fixes{Lo: -mid - 1, Hi: mid + 1}, fixes{Lo: -one, Hi: -mid + 1}},
		{arcs{Lo: 0, Hi: 0}, fixes{Lo: -1, Hi: 1}, fixes{Lo: one - 1, Hi: one}},
		{arcs{Lo: turn / 2, Hi: turn / 2}, fixes{Lo: -1, Hi: 1}, fixes{Lo: -one, Hi: -one + 1}},
		{arcs{Lo: turn / 12, Hi: turn / 12}, fixes{Lo: one/2 - 1, Hi: one/2 + 1}, fixes{Lo: 929887696, Hi: 929887698}},
		{arcs{Lo: turn / 4, Hi: 3 * turn / 4}, full, fixes{Lo: -one, Hi: 1}},
		{arcs{Lo: turn / 4, Hi: 3*turn/4 - 1}, full, fixes{Lo: -one, Hi: 1}},
		// Next to the greatest and the least value the ends are at One all the same.
		{arcs{Lo: turn/4 + 1, Hi: turn/4 + 1}, fixes{Lo: one - 1, Hi: one}, fixes{Lo: -3, Hi: -1}},
		{arcs{Lo: turn/4 + 100000, Hi: 3*turn/4 - 100000}, fixes{Lo: -one + 10, Hi: one - 10}, fixes{Lo: -one, Hi: -157079}},
		{arcs{Lo: 100000, Hi: turn - 100000}, full, fixes{Lo: -one, Hi: one - 10}},
		{arcs{Lo: 0, Hi: turn}, full, full}, {arcs{Lo: 1, Hi: turn}, full, full}, {arcs{Lo: -turn / 2, Hi: turn / 2}, full, full},
		{arcs{Lo: 5*turn + turn/8, Hi: 5*turn + 3*turn/8}, fixes{Lo: mid - 1, Hi: one}, fixes{Lo: -mid - 1, Hi: mid + 1}},
		{arcs{Lo: -7*turn + turn/8, Hi: -7*turn + 3*turn/8}, fixes{Lo: mid - 1, Hi: one}, fixes{Lo: -mid - 1, Hi: mid + 1}},
		{arcs{Lo: -top, Hi: top}, full, full},
		{arcs{Lo: top, Hi: top}, fixes{Lo: -1, Hi: 1}, fixes{Lo: one - 1, Hi: one}},
		{arcs{Lo: -top, Hi: -top + turn/8}, fixes{Lo: -1, Hi: mid + 1}, fixes{Lo: mid - 1, Hi: one}},
		{arcs{Lo: top - turn/8, Hi: top}, fixes{Lo: -mid - 1, Hi: 1}, fixes{Lo: mid - 1, Hi: one}},
	} {
		if s, u := trig.SinBound(c.a), trig.CosBound(c.a); s != c.sin || u != c.cos {
			t.Errorf("case %d: %v, %v", i, s, u)
		}
	}
}

// P6.3: of an angle that is unknown or not valid, nothing is known.
func TestUnknownAngles(t *testing.T) {
	for _, a := range invalid() {
		if s, u := trig.SinBound(a), trig.CosBound(a); s != none || u != none {
			t.Errorf("%v: %v, %v", a, s, u)
		}
	}
}

// invalid returns bounds that are unknown or not valid.
func invalid() []arcs {
	return []arcs{
		unknown, {Lo: 2, Hi: 1}, {Lo: 0, Hi: -1}, {Lo: top + 1, Hi: top + 1}, {Lo: 0, Hi: top + 1}, {Lo: -top - 1, Hi: 0}, {Lo: least, Hi: most}, {Lo: most, Hi: least},
		{Lo: 0, Hi: 5, Unknown: true}, {Lo: -5, Hi: 0, Unknown: true}, {Lo: 1, Hi: 1, Unknown: true}, {Lo: least, Hi: least}, {Lo: most, Hi: most},
	}
}

// passes reports whether a admits first plus some whole number of turns, by looking at all turns near its ends.
func passes(a arcs, first api.Arc) bool {
	for _, end := range []api.Arc{a.Lo, a.Hi} {
		for k := end/turn - 2; k <= end/turn+2; k++ {
			if angle := first + k*turn; a.Lo <= angle && angle <= a.Hi {
				return true
			}
		}
	}
	return false
}

// around returns the bound by P6.3, of the function f with the greatest value at crest and the least one at trough.
func around(a arcs, f func(api.Arc) api.Fix, crest, trough api.Arc) fixes {
	b := fixes{Lo: -api.One, Hi: api.One}
	if !passes(a, crest) {
		b.Hi = min(api.One, max(f(a.Lo), f(a.Hi))+1)
	}
	if !passes(a, trough) {
		b.Lo = max(-api.One, min(f(a.Lo), f(a.Hi))-1)
	}
	return b
}

// spans returns valid bounds: between points about the quarters of turns, and between some without structure.
func spans() []arcs {
	var points []api.Arc
	for quarter := api.Arc(-5); quarter <= 9; quarter++ {
		for _, d := range []api.Arc{-40000, -1, 0, 1, 90000} {
			points = append(points, quarter*(turn/4)+d)
		}
	}
	var list []arcs
	for i, lo := range points {
		for _, hi := range points[i:] {
			list = append(list, arcs{Lo: lo, Hi: hi})
		}
	}
	for i := range uint64(2000) {
		lo := api.Arc(chance(i, 2*top) - top)
		hi := lo + api.Arc(chance(i+5000, 3*turn/2))
		if hi <= top {
			list = append(list, arcs{Lo: lo, Hi: hi})
		}
	}
	return list
}

// P6.3: the bounds are those of the rule, with crests and troughs at the ends, next to them and between them.
func TestBoundsByRule(t *testing.T) {
	for _, a := range spans() {
		if b, want := trig.SinBound(a), around(a, trig.Sin, turn/4, 3*turn/4); b != want {
			t.Errorf("SinBound(%v) is %v, not %v", a, b, want)
		}
		if b, want := trig.CosBound(a), around(a, trig.Cos, 0, turn/2); b != want {
			t.Errorf("CosBound(%v) is %v, not %v", a, b, want)
		}
	}
}

// P6.4: the bound contains the real sine and cosine of the angles that are admitted, which need not be whole.
func TestInclusion(t *testing.T) {
	for i, a := range spans() {
		s, u := trig.SinBound(a), trig.CosBound(a)
		for k := range 40 {
			part := float64(chance(uint64(i*40+k), 1<<40)) / (1 << 40)
			if k < 3 {
				part = float64(k) / 2
			}
			// The turns before the lower end are left out, so that the float has the fraction of an arc.
			angle := float64(rest(a.Lo, turn)) + part*float64(a.Hi-a.Lo)
			if r := realSine(angle); r < float64(s.Lo)-1e-6 || r > float64(s.Hi)+1e-6 {
				t.Fatalf("SinBound(%v) is %v, without %f", a, s, r)
			}
			if r := realCosine(angle); r < float64(u.Lo)-1e-6 || r > float64(u.Hi)+1e-6 {
				t.Fatalf("CosBound(%v) is %v, without %f", a, u, r)
			}
		}
	}
}

// P6.4: a narrower bound of the angle gives a narrower bound of the sine and of the cosine.
func TestIsotony(t *testing.T) {
	for i, a := range append(spans(), unknown) {
		for k := range uint64(30) {
			b := arcs{Lo: api.Arc(chance(uint64(i)*30+k, 3*turn) - turn), Hi: api.Arc(chance(uint64(i)*30+k+7, 3*turn) - turn)}
			if !a.Unknown {
				width := int64(a.Hi - a.Lo)
				skip := width
				if k%2 == 0 {
					skip = min(width, 5)
				}
				b.Lo = a.Lo + api.Arc(chance(uint64(i)*30+k, skip+1))
				b.Hi = a.Hi - api.Arc(chance(uint64(i)*30+k+7, width+1))
			}
			if b.Lo > b.Hi {
				continue
			}
			if !bound.Inside(trig.SinBound(b), trig.SinBound(a)) || !bound.Inside(trig.CosBound(b), trig.CosBound(a)) {
				t.Fatalf("the bounds of %v are not inside those of %v", b, a)
			}
		}
	}
}
