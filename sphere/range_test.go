package sphere_test

import (
	"math"
	"math/big"
	"testing"

	"spyglass/api"
	"spyglass/bound"
	"spyglass/sphere"
	"spyglass/trig"
)

// P9.13: ranges that follow from the rule at once, in each quarter, about right ascension 0 and about the poles.
func TestRange(t *testing.T) {
	const eighth = turn / 8
	box := func(a, b, c, d, e, f api.Coord) api.Box { return api.Box{X: from(a, b), Y: from(c, d), Z: from(e, f)} }
	for i, c := range []struct {
		b       api.Box
		ra, dec arcs
	}{
		{box(1, 1, 1, 1, 0, 0), arcs{Lo: eighth - 2, Hi: eighth + 2}, arcs{Lo: -4, Hi: 4}}, {box(1, 1, -1, 1, 0, 1), arcs{Lo: 7*eighth - 2, Hi: 9*eighth + 2}, arcs{Lo: -4, Hi: eighth + 4}}, {box(1, 1, 0, 0, 0, 0), arcs{Lo: turn - 2, Hi: turn + 2}, arcs{Lo: -4, Hi: 4}}, {box(-1, 1, 1, 1, 0, 0), arcs{Lo: eighth - 2, Hi: 3*eighth + 2}, arcs{Lo: -4, Hi: 4}}, {box(-1, -1, -1, 1, 0, 0), arcs{Lo: 3*eighth - 2, Hi: 5*eighth + 2}, arcs{Lo: -4, Hi: 4}}, {box(-1, 1, -1, -1, 0, 0), arcs{Lo: 5*eighth - 2, Hi: 7*eighth + 2}, arcs{Lo: -4, Hi: 4}},
		{box(0, 1, 1, 2, 0, 0), arcs{Lo: eighth - 2, Hi: quarter + 2}, arcs{Lo: -4, Hi: 4}}, {box(1, 2, 0, 2, 0, 0), arcs{Lo: turn - 2, Hi: turn + quarter - 316933405 + 2}, arcs{Lo: -4, Hi: 4}}, {box(1, 2, 0, 1, 0, 0), arcs{Lo: turn - 2, Hi: turn + eighth + 2}, arcs{Lo: -4, Hi: 4}}, {box(1, 3, 1, 3, 0, 0), arcs{Lo: 219937506 - 2, Hi: quarter - 219937506 + 2}, arcs{Lo: -4, Hi: 4}},
		// Declinations: the farther and the nearer distance from the axis of the poles, on each side of the equator.
		{box(3, 3, 4, 4, 5, 5), arcs{Lo: quarter - 439875012 - 2, Hi: quarter - 439875012 + 2}, arcs{Lo: eighth - 4, Hi: eighth + 4}}, {box(3, 3, 4, 4, -5, -5), arcs{Lo: quarter - 439875012 - 2, Hi: quarter - 439875012 + 2}, arcs{Lo: -eighth - 4, Hi: 4 - eighth}},
		{box(0, 4, 0, 3, 5, 5), noArc, arcs{Lo: eighth - 4, Hi: quarter}}, {box(-4, 0, -3, 0, -5, -5), noArc, arcs{Lo: -quarter, Hi: 4 - eighth}}, {box(-1, 1, -1, 1, 0, 5), noArc, noArc}, {box(0, 0, 0, 0, 1, 1), noArc, arcs{Lo: quarter - 4, Hi: quarter}}, {box(0, 0, 0, 0, -7, -1), noArc, arcs{Lo: -quarter, Hi: 4 - quarter}}, {box(0, 0, 0, 0, 0, 0), noArc, noArc}, {box(0, 1, 0, 1, 0, 1), noArc, noArc}, {box(-1, 0, -1, 0, -1, 0), noArc, noArc}, {box(-5, 5, 0, 0, -3, 0), noArc, noArc},
		{api.Box{X: noCoord, Y: from(1, 1), Z: from(1, 1)}, noArc, noArc}, {api.Box{X: from(1, 1), Y: noCoord, Z: from(1, 1)}, noArc, noArc}, {api.Box{X: from(1, 1), Y: from(1, 1), Z: noCoord}, noArc, noArc}, {noBox, noArc, noArc},
		// Divided and rounded outward, bounds next to 0 admit it; a distance of at most 2 from the axis, beside a length of 2^30, is at most 1 arc.
		{box(1, 1, 1, 1, top, top), noArc, arcs{Lo: quarter - 5, Hi: quarter}}, {box(1<<30, 1<<30, 1<<30, 1<<30, top, top), arcs{Lo: eighth - 2, Hi: eighth + 2}, arcs{Lo: quarter - 5, Hi: quarter}}, {box(1<<30-1, 1<<30, 1<<30-1, 1<<30, top, top), noArc, arcs{Lo: quarter - 5, Hi: quarter}}, {box(1, 1<<40, -5, 0, -5, 5), noArc, noArc}, {box(top-1, top, 1-top, 1-top, 0, 0), arcs{Lo: 7*eighth - 3, Hi: 7*eighth + 3}, arcs{Lo: -4, Hi: 4}},
	} {
		if ra, dec := sphere.Range(c.b); ra != c.ra || dec != c.dec {
			t.Errorf("case %d: Range(%v) is %v, %v, not %v, %v", i, c.b, ra, dec, c.ra, c.dec)
		}
	}
}

// ends are the ends of the three bounds of a box.
type ends [3][2]*big.Int

// endsOf returns the ends of a box; it reports false if a bound is unknown or not valid.
func endsOf(b api.Box) (ends, bool) {
	var list ends
	for i, c := range []coords{b.X, b.Y, b.Z} {
		if c.Unknown || c.Lo > c.Hi || c.Lo < -top || c.Hi > top {
			return ends{}, false
		}
		list[i] = [2]*big.Int{long(int64(c.Lo)), long(int64(c.Hi))}
	}
	return list, true
}

// greatest returns the greatest absolute value of an end.
func (e ends) greatest() *big.Int {
	m := new(big.Int)
	for _, pair := range e {
		for _, n := range pair {
			if n.CmpAbs(m) > 0 {
				m.Abs(n)
			}
		}
	}
	return m
}

// scaled returns the ends by step 2 of P9.13.
func (e ends) scaled() ends {
	m, low, high := e.greatest(), long(1<<29), long(1<<30)
	up, down := long(1), long(1)
	for m.Cmp(low) < 0 && times(m, up).Cmp(low) < 0 {
		up = times(up, long(2))
	}
	for m.Cmp(high) > 0 && ceil(m, down).Cmp(high) > 0 {
		down = times(down, long(2))
	}
	for i, pair := range e {
		e[i] = [2]*big.Int{floor(times(pair[0], up), down), ceil(times(pair[1], up), down)}
	}
	return e
}

// admits0 reports whether a bound admits 0.
func (e ends) admits0(i int) bool { return e[i][0].Sign() <= 0 && e[i][1].Sign() >= 0 }

// cross returns a positive number if b lies to the left of a.
func cross(a, b [2]*big.Int) int { return times(a[0], b[1]).Cmp(times(a[1], b[0])) }

// signed returns the angle of Atan2 from -turn/2 to turn/2 - 1.
func signed(y, x *big.Int) api.Arc {
	a, _ := trig.Atan2(y.Int64(), x.Int64())
	if a >= turn/2 {
		return a - turn
	}
	return a
}

// rangeByRule is the rule of P9.13, written out.
func rangeByRule(b api.Box) (arcs, arcs) {
	e, known := endsOf(b)
	if !known || e.greatest().Sign() == 0 {
		return noArc, noArc
	}
	e = e.scaled()
	ra, dec := noArc, noArc
	if e.admits0(0) && e.admits0(1) && e.admits0(2) {
		return ra, dec
	}
	if !e.admits0(0) || !e.admits0(1) {
		ra = e.outermost()
	}
	squares := e.squares()
	near, far := new(big.Int).Sqrt(squares[0]), new(big.Int).Sqrt(squares[1])
	if times(far, far).Cmp(squares[1]) < 0 {
		far.Add(far, long(1))
	}
	dec = arcs{Lo: signed(e[2][0], near), Hi: signed(e[2][1], near)}
	if e[2][0].Sign() >= 0 {
		dec.Lo = signed(e[2][0], far)
	}
	if e[2][1].Sign() < 0 {
		dec.Hi = signed(e[2][1], far)
	}
	return ra, arcs{Lo: max(-quarter, dec.Lo-sphere.DecErr), Hi: min(quarter, dec.Hi+sphere.DecErr)}
}

// outermost returns the right ascensions by step 4 of P9.13.
func (e ends) outermost() arcs {
	corners := [][2]*big.Int{{e[0][0], e[1][0]}, {e[0][0], e[1][1]}, {e[0][1], e[1][0]}, {e[0][1], e[1][1]}}
	var a, z api.Arc
	for _, c := range corners {
		lefts, rights := 0, 0
		for _, other := range corners {
			switch cross(c, other) {
			case 1:
				lefts++
			case -1:
				rights++
			}
		}
		if rights == 0 {
			a, _ = trig.Atan2(c[1].Int64(), c[0].Int64())
		}
		if lefts == 0 {
			z, _ = trig.Atan2(c[1].Int64(), c[0].Int64())
		}
	}
	lo := ((a-2)%turn + turn) % turn
	return arcs{Lo: lo, Hi: lo + ((z-a)%turn+turn)%turn + 4}
}

// squares returns the least and the greatest x * x + y * y of the numbers that the bounds of X and Y admit.
func (e ends) squares() [2]*big.Int {
	low, high := new(big.Int), new(big.Int)
	for i := range 2 {
		a, b := times(e[i][0], e[i][0]), times(e[i][1], e[i][1])
		if a.Cmp(b) > 0 {
			a, b = b, a
		}
		if !e.admits0(i) {
			low.Add(low, a)
		}
		high.Add(high, b)
	}
	return [2]*big.Int{low, high}
}

// boxes returns boxes of every sort: small ones, ones about directions, ones at the limits of the scaling, and some without structure of all sizes.
func boxes() []api.Box {
	list := smallBoxes()
	for _, m := range []api.Coord{1<<29 - 1, 1 << 29, 1<<29 + 1, 1<<30 - 1, 1 << 30, 1<<30 + 1, 1<<31 - 1, 1 << 31, 1<<31 + 1, 1<<40 - 3, 1<<40 + 1025, top - 1, top} {
		for _, k := range []api.Coord{0, 1, 2, 5, 1 << 20, m / 2, m - 1} {
			list = append(list, api.Box{X: from(m-k, m), Y: from(-k, k), Z: from(-m, k)}, api.Box{X: from(-k, 1), Y: from(-m, k-m), Z: from(1, k+1)}, api.Box{X: from(-m, -k), Y: from(1-m, m), Z: from(k, m-1)}, api.Box{X: from(-k, 0), Y: from(-1, k), Z: from(m-k, m)}, api.Box{X: from(0, k), Y: from(-k, 0), Z: from(-m, k-m)})
		}
	}
	for i := range uint64(1500) {
		b, _ := boxAbout(i)
		list = append(list, b, roughBox(i))
	}
	return list
}

// roughBox returns a box without structure, of any size.
func roughBox(i uint64) api.Box {
	draw := func(state uint64) coords {
		size := int64(1) << (i % 61)
		lo := around(state, size)
		width := chance(state+1, 2) * chance(state+2, 1+size>>(i%7)) // also narrow ones
		return from(api.Coord(lo), api.Coord(min(lo+width, top)))
	}
	return api.Box{X: draw(9 * i), Y: draw(9*i + 20_000), Z: draw(9*i + 40_000)}
}

// P9.13: the ranges are those of the rule, in long numbers.
func TestRangeByRule(t *testing.T) {
	for _, b := range boxes() {
		wantRa, wantDec := rangeByRule(b)
		ra, dec := sphere.Range(b)
		if ra != wantRa || dec != wantDec {
			t.Fatalf("Range(%v) is %v, %v, not %v, %v", b, ra, dec, wantRa, wantDec)
		}
		if bound.Check(ra) != api.OK || bound.Check(dec) != api.OK || ra.Lo < 0 || ra.Lo >= turn || dec.Lo < -quarter || dec.Hi > quarter {
			t.Fatalf("Range(%v) is %v, %v", b, ra, dec)
		}
	}
}

// P9.14: right ascensions in any turn, at the ends of the bound and beyond them, bounds of a whole turn, and what is unknown.
func TestHasRa(t *testing.T) {
	wrap := arcs{Lo: turn - 5, Hi: turn + 5}
	for i, c := range []struct {
		ra arcs
		a  api.Arc
		is bool
	}{
		{wrap, 3, true}, {wrap, 5, true}, {wrap, 6, false}, {wrap, turn - 5, true}, {wrap, turn - 6, false}, {wrap, 2*turn - 5, true}, {wrap, -5, true}, {wrap, -6, false}, {wrap, turn / 2, false}, {arcs{Lo: 7, Hi: 7}, 7 - turn, true}, {arcs{Lo: 7, Hi: 7}, 7 + 5*turn, true}, {arcs{Lo: 7, Hi: 7}, 8, false}, {arcs{Lo: 7, Hi: 7}, 6, false}, {arcs{}, 0, true}, {arcs{}, turn, true}, {arcs{}, 1, false},
		{arcs{Hi: turn - 2}, turn - 1, false}, {arcs{Hi: turn - 1}, turn - 1, true}, {arcs{Lo: 9, Hi: turn + 8}, 5, true}, {arcs{Lo: -top, Hi: top}, 77, true}, {arcs{Lo: -top, Hi: 9 - top}, 9, true}, {arcs{Lo: -top, Hi: 9 - top}, 10, false}, {arcs{Lo: top, Hi: top}, least, true}, {arcs{Lo: top, Hi: top}, most, false}, {arcs{Lo: -top, Hi: 0}, most, true}, {arcs{Lo: -top, Hi: 1 - top}, most, false}, {arcs{Lo: 5 - top, Hi: 7 - top}, least + 6, true}, {arcs{Lo: -1, Hi: 0}, most, true}, {arcs{Lo: 1, Hi: 2}, least, false},
		{noArc, 5, true}, {noArc, least, true}, {arcs{Lo: 2, Hi: 1}, 5, true}, {arcs{Lo: 1, Hi: 1, Unknown: true}, 5, true}, {arcs{Lo: 0, Hi: top + 1}, 5, true}, {arcs{Lo: -top - 1, Hi: -top - 1}, 5, true}, {arcs{Lo: least, Hi: most}, 5, true}, {arcs{Lo: most, Hi: least}, 5, true},
	} {
		if sphere.HasRa(c.ra, c.a) != c.is {
			t.Errorf("case %d: HasRa(%v, %d) is %v", i, c.ra, c.a, !c.is)
		}
	}
}

// P9.14: comparison with the definition, in long numbers.
func TestHasRaByDefinition(t *testing.T) {
	for i := range uint64(3000) {
		size := int64(1) << (i % 60)
		lo := around(i, size)
		b := arcs{Lo: api.Arc(lo), Hi: api.Arc(lo + chance(i+10_000, 1<<(i%35)))}
		a := api.Arc(around(i+20_000, 1<<(i%63)))
		if i%4 == 0 {
			a = b.Hi + api.Arc(chance(i, 2)) + turn*api.Arc(around(i+5, 9))
		}
		rest := new(big.Int).Mod(new(big.Int).Sub(long(int64(a)), long(lo)), long(turn))
		if want := rest.Cmp(long(int64(b.Hi-b.Lo))) <= 0; sphere.HasRa(b, a) != want {
			t.Errorf("HasRa(%v, %d) is %v", b, a, !want)
		}
	}
}

// P9.15: the ranges of a box have the angles of the directions that it holds.
func TestRangeHolds(t *testing.T) {
	tight := 0
	for i := range uint64(20_000) {
		b, v := boxAbout(i)
		if !sphere.InBox(b, v) {
			continue
		}
		ra, dec := sphere.Range(b)
		a, d, _ := sphere.At(v)
		if !sphere.HasRa(ra, a) || !bound.Has(dec, d) {
			t.Fatalf("Range(%v) is %v, %v, without the angles %d and %d of %v", b, ra, dec, a, d, v)
		}
		if !ra.Unknown && ra.Hi-ra.Lo < turn/100 && dec.Hi-dec.Lo < turn/100 {
			tight++
		}
	}
	if tight < 2000 {
		t.Errorf("only %d boxes are narrow", tight)
	}
}

// P9.15: the ranges of a box have the angles of the real directions in it, at its corners and sides and within.
func TestRangeHoldsReal(t *testing.T) {
	for _, b := range boxes() {
		ra, dec := sphere.Range(b)
		if max(b.X.Hi, -b.X.Lo, b.Y.Hi, -b.Y.Lo, b.Z.Hi, -b.Z.Lo) > 1<<40 || dec.Unknown {
			continue
		}
		for k := range uint64(64) {
			// These numbers are exact as floats: they have at most 40 bits before the point and 4 behind it.
			x, y, z := inside(b.X, k), inside(b.Y, k/4), inside(b.Z, k/16)
			if d := inArcs(math.Atan2(z, math.Hypot(x, y))); d < float64(dec.Lo)-1e-4 || d > float64(dec.Hi)+1e-4 {
				t.Fatalf("Range(%v) is %v, %v, without the declination %f", b, ra, dec, d)
			}
			if x == 0 && y == 0 || ra.Unknown {
				continue
			}
			a := inArcs(math.Atan2(y, x)) - float64(ra.Lo)
			if ahead := a - turn*math.Floor(a/turn); ahead > float64(ra.Hi-ra.Lo)+1e-4 && ahead < turn-1e-4 {
				t.Fatalf("Range(%v) is %v, %v, without the right ascension %f", b, ra, dec, a+float64(ra.Lo))
			}
		}
	}
}

// inside returns a number that a bound admits; k chooses it.
func inside(b coords, k uint64) float64 {
	part := []float64{0, 1, 0.5, float64(chance(k, 17)) / 16}[k%4]
	return float64(b.Lo) + part*float64(b.Hi-b.Lo)
}

// narrowed returns a bound inside b.
func narrowed(b coords, state uint64) coords {
	if b.Unknown {
		return from(api.Coord(around(state, 5)), 5)
	}
	width := int64(b.Hi - b.Lo)
	skip := chance(state, min(width, int64(1)<<chance(state+1, 60))+1)
	return from(b.Lo+api.Coord(skip), b.Hi-api.Coord(chance(state+2, min(width-skip, int64(1)<<chance(state+3, 60))+1)))
}

// P9.15: the ranges of a box that is inside another one are inside the ranges of that.
func TestRangeIsotony(t *testing.T) {
	for i, outer := range boxes() {
		wideRa, wideDec := sphere.Range(outer)
		for k := range uint64(6) {
			state := 1000*uint64(i) + 10*k
			inner := api.Box{X: narrowed(outer.X, state), Y: narrowed(outer.Y, state+4), Z: narrowed(outer.Z, state+7)}
			if k == 0 {
				inner.X, inner.Y = outer.X, outer.Y
			}
			ra, dec := sphere.Range(inner)
			if !sphere.Inside(inner, outer) || !bound.Inside(dec, wideDec) {
				t.Fatalf("Range(%v) is %v, %v, but %v is inside it with %v, %v", outer, wideRa, wideDec, inner, ra, dec)
			}
			for _, c := range []api.Arc{ra.Lo, ra.Hi, ra.Lo + (ra.Hi-ra.Lo)/2, ra.Lo + api.Arc(chance(state, int64(ra.Hi-ra.Lo)+1)), api.Arc(chance(state, turn))} {
				if sphere.HasRa(ra, c) && !sphere.HasRa(wideRa, c) {
					t.Fatalf("Range(%v) is %v, %v, but %v is inside it with %v, %v", outer, wideRa, wideDec, inner, ra, dec)
				}
			}
		}
	}
}
