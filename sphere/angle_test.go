package sphere_test

import (
	"math"
	"math/big"
	"slices"
	"testing"

	"spyglass/api"
	"spyglass/sphere"
	"spyglass/trig"
)

// beyond compares k times the root of n with one times d.
func beyond(k int64, d, n *big.Int) int {
	left := times(long(k), long(max(k, -k)), n)
	return left.Cmp(times(d, new(big.Int).Abs(d), long(api.One), long(api.One)))
}

// P9.4: cosines that are rational numbers, and cosines next to 1, 0 and -1.
func TestCosine(t *testing.T) {
	const one, mid = api.One, 759250124
	x := at(1, 0, 0)
	for _, c := range []struct {
		a, b vec
		want fixes
	}{
		{x, at(7, 0, 0), fixes{Lo: one, Hi: one}}, {x, at(-7, 0, 0), fixes{Lo: -one, Hi: -one}}, {x, at(0, 3, 0), fixes{}}, {at(3, 4, 0), at(-4, 3, 5), fixes{}}, {x, at(1, 1, 0), fixes{Lo: mid, Hi: mid + 1}}, {x, at(-1, 0, 1), fixes{Lo: -mid - 1, Hi: -mid}},
		{at(1, 1, 0), at(1, 0, 1), fixes{Lo: one / 2, Hi: one / 2}}, {at(1, 1, 0), at(-1, 0, 1), fixes{Lo: -one / 2, Hi: -one / 2}}, {at(3, 4, 0), x, fixes{Lo: 644245094, Hi: 644245095}}, {at(-3, 4, 0), x, fixes{Lo: -644245095, Hi: -644245094}}, {at(0, 0, 5), at(0, 4, 3), fixes{Lo: 644245094, Hi: 644245095}},
		{at(rim, 1, 0), x, fixes{Lo: one - 1, Hi: one}}, {at(-rim, 0, 1), x, fixes{Lo: -one, Hi: 1 - one}}, {at(1, rim, rim), x, fixes{Lo: 724, Hi: 725}}, {at(rim, rim-1, 0), at(rim-1, rim-2, 0), fixes{Lo: one - 1, Hi: one}}, {at(rim, rim, rim), at(rim, rim, rim), fixes{Lo: one, Hi: one}}, {at(rim, -rim, rim), at(-rim, rim, -rim), fixes{Lo: -one, Hi: -one}},
		{at(rim, rim-1, 0), at(1-rim, rim, 0), fixes{}}, {at(rim, rim-1, 0), at(2-rim, rim, 0), fixes{Lo: 512, Hi: 513}},
	} {
		if b := sphere.Cosine(c.a, c.b); b != c.want {
			t.Errorf("Cosine(%v, %v) is %v, not %v", c.a, c.b, b, c.want)
		}
	}
}

// P9.4: the ends are the whole numbers next to the exact cosine, for all pairs of directions.
func TestCosineExact(t *testing.T) {
	for _, a := range directions() {
		for _, b := range directions() {
			got, d, n := sphere.Cosine(a, b), scalar(a, b), times(scalar(a, a), scalar(b, b))
			if lo, hi := int64(got.Lo), int64(got.Hi); got.Unknown || beyond(lo, d, n) > 0 || beyond(lo+1, d, n) <= 0 || beyond(hi, d, n) < 0 || beyond(hi-1, d, n) >= 0 {
				t.Errorf("Cosine(%v, %v) is %v", a, b, got)
			}
		}
	}
}

// P9.4 to P9.7: of what is no direction, no angle is known.
func TestAnglesOfFaults(t *testing.T) {
	x, y := at(1, 0, 0), at(0, 1, 0)
	for v, want := range faults() {
		if !sphere.Cosine(v, x).Unknown || !sphere.Cosine(x, v).Unknown || sphere.Cosine(v, v) != (fixes{Unknown: true}) {
			t.Errorf("the cosine of the angle to %v is known", v)
		}
		for _, r := range []api.Arc{0, turn / 8, quarter, 3 * turn / 8, turn / 2, turn, most} {
			if sphere.Within(v, x, r) || sphere.Within(x, v, r) || sphere.Within(v, v, r) {
				t.Errorf("%v is within %d", v, r)
			}
		}
		if r, e := sphere.Separation(v, x); r != 0 || e != want {
			t.Errorf("Separation(%v, x) is %d, %d", v, r, e)
		}
		if r, e := sphere.Separation(x, v); r != 0 || e != want {
			t.Errorf("Separation(x, %v) is %d, %d", v, r, e)
		}
		if n := sphere.Nearer(v, x, x, y) | sphere.Nearer(x, v, x, y) | sphere.Nearer(x, y, v, x) | sphere.Nearer(x, y, x, v) | sphere.Nearer(x, x, v, y) | sphere.Nearer(v, v, x, y) | sphere.Nearer(x, y, v, v); n != 0 {
			t.Errorf("an angle to %v is nearer", v)
		}
	}
	// The first direction is checked first.
	if r, e := sphere.Separation(vec{}, at(most, 0, 0)); r != 0 || e != api.ErrNone {
		t.Errorf("%d, %d", r, e)
	}
	if r, e := sphere.Separation(at(most, 0, 0), vec{}); r != 0 || e != api.ErrRange {
		t.Errorf("%d, %d", r, e)
	}
}

// equal is a pair of directions for which the rule of Within is an equality at the least angle.
type equal struct {
	a, b vec
	r    api.Arc
}

// equals returns pairs of directions at known angles: in each part of the rule, some for which it is an equality.
func equals() []equal {
	x, y, xy := at(1, 0, 0), at(0, 1, 0), at(1, 1, 0)
	return []equal{
		{x, at(5, 0, 0), 0}, {xy, at(2, 2, 0), 0}, {at(rim, rim, rim), at(1, 1, 1), 0}, {x, y, quarter}, {at(3, 4, 0), at(-4, 3, 7), quarter}, {x, at(-1, 0, 0), turn / 2}, {at(1, 2, 3), at(-2, -4, -6), turn / 2},
		{x, xy, turn / 8}, {x, at(-1, 1, 0), 3 * turn / 8},
		// A sine of 1/3; sines of 1/2 (the squared cosine is 9/12) and cosines of 1/2: the angles are whole turns over 12, rounded so that Sin and Cos are One/2.
		{at(1, 2, 2), at(0, 1, 1), 232300711}, {xy, at(2, 1, 1), turn / 12}, {xy, at(-2, -1, -1), (5*turn + 4) / 12}, {xy, at(1, 0, 1), (turn + 2) / 6}, {xy, at(-1, 0, 1), turn / 3},
	}
}

// P9.5, P9.6: the angle of each pair is the least one within which it is.
func TestWithin(t *testing.T) {
	for _, c := range equals() {
		if r, e := sphere.Separation(c.a, c.b); r != c.r || e != api.OK {
			t.Errorf("Separation(%v, %v) is %d, %d, not %d", c.a, c.b, r, e, c.r)
		}
		for _, r := range radii(c.r) {
			if sphere.Within(c.a, c.b, r) != (r >= c.r) || sphere.Within(c.b, c.a, r) != (r >= c.r) {
				t.Errorf("Within(%v, %v, %d) is %v", c.a, c.b, r, r < c.r)
			}
		}
	}
}

// radii returns angles of every sort in increasing order: negative ones, about the limits of the parts of the rule, about r, and far ones.
func radii(r api.Arc) []api.Arc {
	list := []api.Arc{least, -turn, -turn / 8, -1, turn, turn + 1, 5*turn + 1, top, most - quarter, most}
	for d := api.Arc(-2); d <= 2; d++ {
		list = append(list, turn/8+d, quarter+d, 3*turn/8+d, turn/2+d, r+d)
	}
	list = append(list, 0, 1, turn/16, turn/12, 3*turn/16, turn/6, 5*turn/16, turn/3, 7*turn/16, 5*turn/12)
	slices.Sort(list)
	return list
}

// within is the rule of P9.5, written out.
func within(a, b vec, r api.Arc) bool {
	d, n := scalar(a, b), times(scalar(a, a), scalar(b, b))
	one, s, c := long(api.One), long(int64(trig.Sin(r))), long(int64(trig.Cos(r)))
	rest := new(big.Int).Sub(n, times(d, d))
	switch {
	case r < 0:
		return false
	case r >= turn/2:
		return true
	case r <= turn/8:
		return d.Sign() > 0 && times(rest, one, one).Cmp(times(s, s, n)) <= 0
	case r <= 3*turn/8 && c.Sign() > 0:
		return d.Sign() > 0 && times(d, d, one, one).Cmp(times(c, c, n)) >= 0
	case r <= 3*turn/8:
		return d.Sign() >= 0 || times(d, d, one, one).Cmp(times(c, c, n)) <= 0
	}
	return d.Sign() >= 0 || times(rest, one, one).Cmp(times(s, s, n)) >= 0
}

// pairs returns pairs of directions: all of the short list, and pairs with angles next to 0, to the limits of the parts of the rule, and to half a turn.
func pairs() [][2]vec {
	var list [][2]vec
	for _, a := range directions() {
		for _, b := range directions() {
			list = append(list, [2]vec{a, b})
		}
	}
	for i := range uint64(100) {
		// The vectors v and w have an angle of less than an arc; turned by quarters and mirrored at diagonals, they have other ones.
		v, w := neighbors(int64(rim-1-2*chance(i, 99)), int64(rim-2*chance(i+100, 99)))
		list = append(list, [2]vec{v, w}, [2]vec{v, at(-w.X, -w.Y, 0)}, [2]vec{v, at(-w.Y, w.X, 0)}, [2]vec{v, at(w.Y, -w.X, 0)})
		if x, y := v.X-v.Y, v.X+v.Y; y <= rim {
			list = append(list, [2]vec{w, at(x, y, 0)}, [2]vec{w, at(-x, -y, 0)}, [2]vec{w, at(-y, x, 0)}, [2]vec{w, at(y, -x, 0)})
		}
	}
	return list
}

// neighbors returns two directions between the first two axes of which the second one lies to the left, and whose vector product is as short as can be.
func neighbors(x, y int64) (vec, vec) {
	divisor := new(big.Int).GCD(nil, nil, long(x), long(y)).Int64()
	x, y = x/divisor, y/divisor
	p, q := new(big.Int), new(big.Int)
	new(big.Int).GCD(p, q, long(x), long(y))
	// Now p*x + q*y is 1, and one of p and q is not positive.
	v, w := at(x, y, 0), at(-q.Int64(), p.Int64(), 0)
	if w.X < 0 || w.Y < 0 {
		w = at(w.X+x, w.Y+y, 0)
	}
	return v, w
}

// P9.5: the result is that of the rule, and stays true for all greater angles.
func TestWithinByRule(t *testing.T) {
	for i, p := range pairs() {
		separation, _ := sphere.Separation(p[0], p[1])
		list := append(radii(separation), api.Arc(chance(uint64(i), turn/2)), api.Arc(chance(uint64(i)+5000, turn/8)))
		slices.Sort(list)
		was := false
		for _, r := range list {
			is := sphere.Within(p[0], p[1], r)
			if is != within(p[0], p[1], r) || was && !is {
				t.Fatalf("Within(%v, %v, %d) is %v", p[0], p[1], r, is)
			}
			was = is
		}
	}
}

// P9.6: the angle is the least one within which the directions are, and differs little from the real one.
func TestSeparation(t *testing.T) {
	for _, p := range pairs() {
		r, e := sphere.Separation(p[0], p[1])
		if e != api.OK || r < 0 || r > turn/2 || !within(p[0], p[1], r) || within(p[0], p[1], r-1) {
			t.Errorf("Separation(%v, %v) is %d, %d", p[0], p[1], r, e)
		}
		if gap := float64(r) - between(floats(p[0]), floats(p[1])); math.Abs(gap) >= 2 {
			t.Errorf("Separation(%v, %v) is off by %f", p[0], p[1], gap)
		}
		if back, _ := sphere.Separation(p[1], p[0]); back != r {
			t.Errorf("Separation(%v, %v) is %d, but %d the other way round", p[0], p[1], r, back)
		}
	}
}

// P9.7: angles that are equal, and angles that differ by very little.
func TestNearer(t *testing.T) {
	x, y, z := at(1, 0, 0), at(0, 1, 0), at(0, 0, 1)
	for _, c := range []struct {
		a, b, c, d vec
		want       int
	}{
		{x, at(1, 1, 0), x, y, -1}, {x, y, y, z, 0}, {x, at(-1, 0, 0), x, y, 1}, {x, at(-1, 1, 0), x, at(-2, 1, 0), -1}, {x, at(-1, 1, 0), y, at(1, -1, 0), 0}, {x, at(1, 1, 0), z, at(0, rim, rim), 0}, {x, at(2, 0, 0), z, at(0, 0, rim), 0}, {x, at(-2, 0, 0), z, at(0, 0, -rim), 0}, {x, y, x, at(-1, rim, rim), -1}, {x, y, x, at(1, rim, rim), 1}, {x, x, y, at(0, rim, 1), -1}, {x, at(-1, 0, 0), y, at(0, -rim, 1), 1}, {x, at(3, 4, 0), at(0, 4, 3), z, 0}, {x, at(3, 4, 0), at(0, 3, 4), z, 1},
		// Both angles are next to 0, with sines of 1 over the product of the lengths; then next to half a turn.
		{at(rim, rim-1, 0), at(rim-1, rim-2, 0), at(rim-1, rim-2, 0), at(rim-2, rim-3, 0), -1}, {at(rim, rim-1, 0), at(1-rim, 2-rim, 0), at(rim-1, rim-2, 0), at(2-rim, 3-rim, 0), 1}, {at(rim, rim-1, 0), at(rim-1, rim-2, 0), at(0, rim, rim-1), at(0, rim-1, rim-2), 0},
	} {
		if n := sphere.Nearer(c.a, c.b, c.c, c.d); n != c.want {
			t.Errorf("Nearer(%v, %v, %v, %v) is %d", c.a, c.b, c.c, c.d, n)
		}
		if n := sphere.Nearer(c.c, c.d, c.b, c.a); n != -c.want {
			t.Errorf("Nearer(%v, %v, %v, %v) is %d", c.c, c.d, c.b, c.a, n)
		}
	}
}

// cosine returns the square of the cosine, with its sign.
func cosine(a, b vec) *big.Rat {
	d := scalar(a, b)
	return new(big.Rat).SetFrac(times(d, new(big.Int).Abs(d)), times(scalar(a, a), scalar(b, b)))
}

// P9.7: the result is that of the exact cosines.
func TestNearerExact(t *testing.T) {
	list := pairs()
	for i, p := range list {
		for _, k := range []int{1, 2, 3, 17, 71, 1000} {
			q := list[(i+k)%len(list)]
			want := cosine(q[0], q[1]).Cmp(cosine(p[0], p[1]))
			if n := sphere.Nearer(p[0], p[1], q[0], q[1]); n != want {
				t.Errorf("Nearer(%v, %v, %v, %v) is %d", p[0], p[1], q[0], q[1], n)
			}
		}
	}
}
