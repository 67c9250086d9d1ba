package sphere_test

import (
	"math"
	"math/big"
	"testing"

	"spyglass/api"
	"spyglass/sphere"
	"spyglass/trig"
)

// P9.8: plates, and each error.
func TestCheckPlate(t *testing.T) {
	for _, p := range plates() {
		if e := sphere.CheckPlate(p); e != api.OK {
			t.Errorf("CheckPlate(%v) is %d", p, e)
		}
	}
	for p, want := range faultyPlates() {
		if e := sphere.CheckPlate(p); e != want {
			t.Errorf("CheckPlate(%v) is %d, not %d", p, e, want)
		}
	}
}

// P9.8: known matrices, one of them with a different number in each place, and what is no plate.
func TestRows(t *testing.T) {
	for _, c := range []struct {
		p    api.Plate
		rows [3][3]int64
		n    int64
	}{
		{api.Plate{A: 1}, [3][3]int64{{1, 0, 0}, {0, 1, 0}, {0, 0, 1}}, 1},
		{api.Plate{A: 1, B: 1}, [3][3]int64{{2, 0, 0}, {0, 0, -2}, {0, 2, 0}}, 2},
		{api.Plate{A: 1, C: -1}, [3][3]int64{{0, 0, -2}, {0, 2, 0}, {2, 0, 0}}, 2},
		{api.Plate{A: 1, D: 1}, [3][3]int64{{0, -2, 0}, {2, 0, 0}, {0, 0, 2}}, 2},
		{api.Plate{A: 2, B: 3, C: 5, D: 7}, [3][3]int64{{-61, 2, 62}, {58, -29, 58}, {22, 82, 19}}, 87},
	} {
		if m, n := sphere.Rows(c.p); m != c.rows || n != c.n {
			t.Errorf("Rows(%v) is %v, %d", c.p, m, n)
		}
	}
	for p := range faultyPlates() {
		if m, n := sphere.Rows(p); m != [3][3]int64{} || n != 0 {
			t.Errorf("Rows(%v) is %v, %d", p, m, n)
		}
		if q := sphere.Spin(p, at(1, 2, 3)); q != (vec{}) {
			t.Errorf("Spin of %v is %v", p, q)
		}
	}
	for v := range faults() {
		if q := sphere.Spin(api.Plate{A: 1, B: 2}, v); q != (vec{}) {
			t.Errorf("Spin to %v is %v", v, q)
		}
	}
}

// hamilton returns the product of two quaternions.
func hamilton(p, q api.Plate) api.Plate {
	return api.Plate{
		A: p.A*q.A - p.B*q.B - p.C*q.C - p.D*q.D,
		B: p.A*q.B + p.B*q.A + p.C*q.D - p.D*q.C,
		C: p.A*q.C - p.B*q.D + p.C*q.A + p.D*q.B,
		D: p.A*q.D + p.B*q.C - p.C*q.B + p.D*q.A,
	}
}

// turned returns p*v*q, where q is the conjugate of the quaternion p.
func turned(p api.Plate, v vec) vec {
	q := hamilton(hamilton(p, api.Plate{B: v.X, C: v.Y, D: v.Z}), api.Plate{A: p.A, B: -p.B, C: -p.C, D: -p.D})
	return at(q.B, q.C, q.D)
}

// P9.8: the matrix is the rotation by the quaternion, times its squared length.
func TestSpin(t *testing.T) {
	for _, p := range plates() {
		m, n := sphere.Rows(p)
		if n != p.A*p.A+p.B*p.B+p.C*p.C+p.D*p.D {
			t.Errorf("Rows(%v): %d", p, n)
		}
		for i, axis := range []vec{at(1, 0, 0), at(0, 1, 0), at(0, 0, 1)} {
			if q := turned(p, axis); q != at(m[0][i], m[1][i], m[2][i]) {
				t.Errorf("Rows(%v): %v in column %d is not %v", p, m, i, q)
			}
		}
		for _, v := range directions() {
			if q := sphere.Spin(p, v); q != turned(p, v) {
				t.Errorf("Spin(%v, %v) is %v", p, v, q)
			}
		}
	}
}

// P9.9: points that follow from the rule at once, and the middle of the frame.
func TestPixel(t *testing.T) {
	one, flip := api.Plate{A: 1}, api.Plate{A: 1, B: 1}
	for _, c := range []struct {
		p    api.Plate
		w, h int
		v    vec
		want api.Point
	}{
		{one, 32, 32, at(1, -1, 512), api.Point{X: 4352, Y: 3840}}, {one, 1, 1, at(0, 0, 1), api.Point{X: 128, Y: 128}}, {one, 5, 32, at(0, 0, rim), api.Point{X: 640, Y: 4096}}, {one, 2, 4, at(-1, 0, 1<<18), api.Point{X: 255, Y: 512}}, {one, 2, 4, at(1, -1, 1<<18), api.Point{X: 256, Y: 511}}, {one, 2, 2, at(-3, 3, 1<<18), api.Point{X: 254, Y: 257}},
		{one, 1, 2, at(3, -4, 5), api.Point{X: 128 + 78643, Y: 256 - 104858}}, {flip, 2, 2, at(0, 1, 0), api.Point{X: 256, Y: 256}}, {flip, 2, 2, at(1, rim, 0), api.Point{X: 256, Y: 256}}, {flip, 2, 2, at(-1, 2, 1), api.Point{X: 256 - 65536, Y: 256 - 65536}},
		{one, 32, 32, at(rim, -rim, 1), api.Point{X: 4096 + 1<<37, Y: 4096 - 1<<37}}, {api.Plate{A: 1024, B: 1024, C: 1024, D: 1024}, 1, 1, at(rim, 1, 1-rim), api.Point{X: 128 - 1<<37 + 1<<17, Y: 128 + 1<<37}},
	} {
		if q, e := sphere.Pixel(c.p, c.w, c.h, c.v); q != c.want || e != api.OK {
			t.Errorf("Pixel(%v, %d, %d, %v) is %v, %d", c.p, c.w, c.h, c.v, q, e)
		}
	}
}

// P9.9, P9.10: the plate is checked first, then the frame, then the direction.
func TestFrameErrors(t *testing.T) {
	one, front, first := api.Plate{A: 1}, at(0, 0, 1), subs{}
	for _, c := range []struct {
		p    api.Plate
		w, h int
		want api.Errno
	}{
		{one, 1, 1, api.OK}, {one, 32, 32, api.OK}, {one, 0, 1, api.ErrRange}, {one, 1, 0, api.ErrRange}, {one, 33, 1, api.ErrRange}, {one, 1, 33, api.ErrRange}, {one, -1, 5, api.ErrRange}, {one, 5, -1, api.ErrRange}, {one, least, 1, api.ErrRange}, {one, 1, most, api.ErrRange},
		{api.Plate{}, 1, 1, api.ErrNone}, {api.Plate{}, 0, 1, api.ErrNone}, {api.Plate{}, 1, 33, api.ErrNone},
	} {
		if q, e := sphere.Pixel(c.p, c.w, c.h, front); e != c.want || e != api.OK && q != (api.Point{}) {
			t.Errorf("Pixel(%v, %d, %d) is %v, %d, not %d", c.p, c.w, c.h, q, e, c.want)
		}
		if b, e := sphere.Ray(c.p, c.w, c.h, first, first); e != c.want || e != api.OK && b != (api.Box{}) {
			t.Errorf("Ray(%v, %d, %d) is %v, %d, not %d", c.p, c.w, c.h, b, e, c.want)
		}
		if q, e := sphere.Pixel(c.p, c.w, c.h, vec{}); q != (api.Point{}) || c.want != api.OK && e != c.want || c.want == api.OK && e != api.ErrNone {
			t.Errorf("Pixel(%v, %d, %d) without a direction is %v, %d", c.p, c.w, c.h, q, e)
		}
	}
	for v, want := range faults() {
		if q, e := sphere.Pixel(one, 1, 1, v); q != (api.Point{}) || e != want {
			t.Errorf("Pixel to %v is %v, %d", v, q, e)
		}
	}
	for p, want := range faultyPlates() {
		if q, e := sphere.Pixel(p, 1, 1, front); q != (api.Point{}) || e != want {
			t.Errorf("Pixel(%v) is %v, %d", p, q, e)
		}
		if b, e := sphere.Ray(p, 1, 1, subs{Unknown: true}, first); b != (api.Box{}) || e != want {
			t.Errorf("Ray(%v) is %v, %d", p, b, e)
		}
	}
}

// P9.9: directions beside and behind the sensor are not seen.
func TestPixelBehind(t *testing.T) {
	for _, c := range []struct {
		p api.Plate
		v vec
	}{
		{api.Plate{A: 1}, at(1, 0, 0)}, {api.Plate{A: 1}, at(1, 1, -1)}, {api.Plate{A: 1}, at(0, 0, -rim)}, {api.Plate{B: 1}, at(0, 0, 1)}, {api.Plate{A: 1, B: 1}, at(0, 0, 1)}, {api.Plate{A: 1, B: 1}, at(0, -1, 0)},
	} {
		if q, e := sphere.Pixel(c.p, 1, 1, c.v); q != (api.Point{}) || e != api.ErrRange {
			t.Errorf("Pixel(%v, 1, 1, %v) is %v, %d", c.p, c.v, q, e)
		}
	}
}

// P9.9: the point is that of the rule, in long numbers.
func TestPixelByRule(t *testing.T) {
	for i, p := range plates() {
		for k, v := range directions() {
			w, h := 1+(i*7+k)%32, 1+(i+k*5)%32
			q, e := sphere.Pixel(p, w, h, v)
			s := turned(p, v)
			if s.Z <= 0 {
				if q != (api.Point{}) || e != api.ErrRange {
					t.Errorf("Pixel(%v, %d, %d, %v) is %v, %d", p, w, h, v, q, e)
				}
				continue
			}
			x, y := floor(times(long(api.Focal), long(s.X)), long(s.Z)), floor(times(long(api.Focal), long(s.Y)), long(s.Z))
			want := api.Point{X: api.Sub(128*int64(w) + x.Int64()), Y: api.Sub(128*int64(h) + y.Int64())}
			if q != want || e != api.OK {
				t.Errorf("Pixel(%v, %d, %d, %v) is %v, %d, not %v", p, w, h, v, q, e, want)
			}
		}
	}
}

// P9.10: boxes that follow from the rule at once, what is unknown, and the limits.
func TestRay(t *testing.T) {
	one, flip, side := api.Plate{A: 1}, api.Plate{A: 1, B: 1}, api.Plate{A: 1, D: 1}
	sub := func(lo, hi api.Sub) subs { return subs{Lo: lo, Hi: hi} }
	mid := sub(256, 256)
	for i, c := range []struct {
		p    api.Plate
		w, h int
		x, y subs
		want api.Box
	}{
		{one, 2, 2, mid, sub(250, 260), api.Box{X: from(0, 1), Y: from(-6, 5), Z: from(api.Focal, api.Focal)}}, {one, 1, 3, mid, mid, api.Box{X: from(128, 129), Y: from(-128, -127), Z: from(api.Focal, api.Focal)}},
		{flip, 2, 2, mid, mid, api.Box{X: from(0, 2), Y: from(2*api.Focal, 2*api.Focal), Z: from(-2, 0)}}, {side, 2, 2, sub(256, 258), sub(300, 310), api.Box{X: from(88, 110), Y: from(-6, 0), Z: from(2*api.Focal, 2*api.Focal)}},
		{api.Plate{A: 2, B: 3, C: 5, D: 7}, 2, 2, mid, sub(257, 257), api.Box{X: from(58-61+22*api.Focal, 116+22*api.Focal), Y: from(-58+82*api.Focal, -29+2+82*api.Focal), Z: from(58+19*api.Focal, 62+116+19*api.Focal)}},
		{one, 2, 2, subs{Unknown: true}, mid, noBox}, {one, 2, 2, mid, subs{Unknown: true}, noBox}, {flip, 2, 2, subs{Unknown: true}, mid, noBox}, {one, 2, 2, sub(5, 4), mid, noBox}, {one, 2, 2, mid, sub(0, top+1), noBox}, {one, 2, 2, mid, subs{Lo: 1, Unknown: true}, noBox},
		// A half of the frame less than the limit, no place is known; with greater factors, single components are not.
		{one, 2, 2, sub(256-top, 0), mid, api.Box{X: from(-top, -255), Y: from(0, 1), Z: from(api.Focal, api.Focal)}}, {one, 2, 2, sub(255-top, 0), mid, noBox}, {one, 2, 4, mid, sub(511-top, 0), noBox}, {one, 2, 2, sub(top, top), mid, api.Box{X: from(top-256, top-255), Y: from(0, 1), Z: from(api.Focal, api.Focal)}}, {one, 1, 1, mid, sub(-128, top), api.Box{X: from(128, 129), Y: from(-256, top-127), Z: from(api.Focal, api.Focal)}},
		{flip, 2, 2, sub(0, top/2), mid, api.Box{X: from(-512, top-510), Y: from(2*api.Focal, 2*api.Focal), Z: from(-2, 0)}}, {flip, 2, 2, sub(0, top/2+256), mid, api.Box{X: noCoord, Y: from(2*api.Focal, 2*api.Focal), Z: from(-2, 0)}}, {flip, 2, 2, mid, sub(0, top/2+255), api.Box{X: from(0, 2), Y: from(2*api.Focal, 2*api.Focal), Z: from(-top, 512)}}, {flip, 2, 2, mid, sub(0, top/2+256), api.Box{X: from(0, 2), Y: from(2*api.Focal, 2*api.Focal), Z: noCoord}},
	} {
		if b, e := sphere.Ray(c.p, c.w, c.h, c.x, c.y); b != c.want || e != api.OK {
			t.Errorf("case %d: %v, %d, not %v", i, b, e, c.want)
		}
	}
}

// limited returns the bound from lo to hi, or an unknown one if an end is beyond the limits.
func limited(lo, hi *big.Int) coords {
	if !lo.IsInt64() || !hi.IsInt64() {
		return noCoord
	}
	b := from(api.Coord(lo.Int64()), api.Coord(hi.Int64()))
	if b.Lo < -top || b.Hi > top {
		return noCoord
	}
	return b
}

// plus returns the sum of two bounds, or an unknown one.
func plus(a, b coords) coords {
	if a.Unknown || b.Unknown {
		return noCoord
	}
	return limited(long(int64(a.Lo+b.Lo)), long(int64(a.Hi+b.Hi)))
}

// part returns the bound of n times the distance of a place from the middle of some cells.
func part(x subs, cells int, n int64) coords {
	u := limited(long(int64(x.Lo)-128*int64(cells)), long(int64(x.Hi)-128*int64(cells)+1))
	if u.Unknown {
		return noCoord
	}
	lo, hi := times(long(int64(u.Lo)), long(n)), times(long(int64(u.Hi)), long(n))
	if n < 0 {
		lo, hi = hi, lo
	}
	return limited(lo, hi)
}

// P9.10: the box is that of the rule, in long numbers; it holds the directions that are seen within the bounds.
func TestRayByRule(t *testing.T) {
	for i, p := range plates() {
		m, _ := sphere.Rows(p)
		for k := range 60 {
			state := uint64(100*i + k)
			w, h := 1+k%32, 1+k*5%32
			size := int64(1) << (k + 1)
			x := subs{Lo: api.Sub(around(state, size))}
			y := subs{Lo: api.Sub(around(state+9000, size))}
			x.Hi, y.Hi = x.Lo+api.Sub(chance(state, size)), y.Lo+api.Sub(chance(state+90, 1<<(k%20)))
			b, e := sphere.Ray(p, w, h, x, y)
			var want [3]coords
			for j := range want {
				want[j] = plus(plus(part(x, w, m[0][j]), part(y, h, m[1][j])), from(api.Coord(m[2][j]*api.Focal), api.Coord(m[2][j]*api.Focal)))
			}
			if b != (api.Box{X: want[0], Y: want[1], Z: want[2]}) || e != api.OK {
				t.Fatalf("Ray(%v, %d, %d, %v, %v) is %v, %d, not %v", p, w, h, x, y, b, e, want)
			}
		}
	}
}

// P9.10: the box holds each direction that is seen within the bounds, also at their ends.
func TestRayHolds(t *testing.T) {
	for i, p := range plates() {
		for k, v := range manyDirections() {
			q, e := sphere.Pixel(p, 9, 20, v)
			if e != api.OK {
				continue
			}
			x, y := subs{Lo: q.X, Hi: q.X}, subs{Lo: q.Y, Hi: q.Y}
			x.Lo, x.Hi = x.Lo-api.Sub(chance(uint64(k), 3)*chance(uint64(k+i), 1000)), x.Hi+api.Sub(chance(uint64(i+2*k), 3)*chance(uint64(i), 1000))
			if b, e := sphere.Ray(p, 9, 20, x, y); e != api.OK || !sphere.InBox(b, v) {
				t.Fatalf("Ray(%v, 9, 20, %v, %v) is %v, %d, without %v", p, x, y, b, e, v)
			}
		}
	}
}

// P9.11: plates that follow from the rule at once.
func TestPlate(t *testing.T) {
	for _, c := range []struct {
		ra, dec, roll api.Arc
		want          api.Plate
	}{
		{0, 0, 0, api.Plate{A: 512, B: -512, C: -512, D: -512}}, {0, quarter, 0, api.Plate{A: 724, D: -724}}, {0, -quarter, 0, api.Plate{B: -724, C: -724}}, {quarter, 0, 0, api.Plate{B: 0, C: -724, D: -724}}, {0, quarter, quarter, api.Plate{D: -1024}}, {0, quarter, 3 * quarter, api.Plate{A: -1024}}, {0, -quarter, quarter, api.Plate{B: -1024}}, {0, -quarter, 3 * quarter, api.Plate{C: 1024}},
		{turn / 2, 0, 0, api.Plate{A: -512, B: 512, C: -512, D: -512}}, {turn / 2, 0, turn / 2, api.Plate{A: -512, B: -512, C: -512, D: 512}},
		// The sums of angles are odd, and beside their halves, rounded down, a component changes: Cos(622023810) is 628.5 * 2^20 or more, Cos(622023811) is less.
		{0, quarter, 170305797, api.Plate{A: 629, D: -808}}, {873430157, -quarter, 0, api.Plate{B: -149, C: -1013}}, {1274053491, -quarter, 0, api.Plate{B: 150, C: -1013}}, {0, 429818287, 3 * quarter, api.Plate{A: -913, C: 465}}, {0, 431573123, 3 * quarter, api.Plate{A: -913, C: 463}},
		// Sin(333772) is 2^19: halves are rounded away from 0.
		{3*quarter + 667545, quarter, turn - 1, api.Plate{A: 1024, D: -1}}, {0, quarter, 3*quarter + 667544, api.Plate{A: -1024, D: 1}},
	} {
		if p, e := sphere.Plate(c.ra, c.dec, c.roll); p != c.want || e != api.OK {
			t.Errorf("Plate(%d, %d, %d) is %v, %d", c.ra, c.dec, c.roll, p, e)
		}
	}
	for _, c := range [][3]api.Arc{{-1, 0, 0}, {turn, 0, 0}, {0, quarter + 1, 0}, {0, -quarter - 1, 0}, {0, 0, -1}, {0, 0, turn}, {least, 0, 0}, {most, 0, 0}, {0, least, 0}, {0, most, 0}, {0, 0, least}, {0, 0, most}} {
		if p, e := sphere.Plate(c[0], c[1], c[2]); p != (api.Plate{}) || e != api.ErrRange {
			t.Errorf("Plate(%d, %d, %d) is %v, %d", c[0], c[1], c[2], p, e)
		}
	}
}

// element returns the product of two numbers, rounded, of a plate.
func element(a, b api.Fix) int64 { return nearest(times(long(int64(a)), long(int64(b))), long(1<<50)) }

// plateByRule is the rule of P9.11, written out.
func plateByRule(ra, dec, roll api.Arc) api.Plate {
	half := func(a api.Arc) api.Arc { return api.Arc(floor(long(int64(a)), long(2)).Int64()) }
	u, w, b := half(roll+quarter+ra), half(roll+quarter-ra), half(quarter-dec)
	return api.Plate{
		A: element(trig.Cos(b), trig.Cos(u)),
		B: -element(trig.Sin(b), trig.Sin(w)),
		C: -element(trig.Sin(b), trig.Cos(w)),
		D: -element(trig.Cos(b), trig.Sin(u)),
	}
}

// sum returns a*v + b*w.
func sum(a float64, v real, b float64, w real) real {
	return real{a*v[0] + b*w[0], a*v[1] + b*w[1], a*v[2] + b*w[2]}
}

// P9.11: the plate is that of the rule; its third row points to the direction, its columns east, turned toward north, and its rows north.
func TestPlateByRule(t *testing.T) {
	for i, c := range heavens() {
		for k := range 5 {
			ra, dec, roll := c[0], c[1], api.Arc(k%4*quarter)
			if k == 4 {
				roll = api.Arc(chance(uint64(i), turn))
			}
			p, e := sphere.Plate(ra, dec, roll)
			if p != plateByRule(ra, dec, roll) || e != api.OK || sphere.CheckPlate(p) != api.OK {
				t.Fatalf("Plate(%d, %d, %d) is %v, %d", ra, dec, roll, p, e)
			}
			m, _ := sphere.Rows(p)
			axis, east, north := toward(ra, dec), toward((ra+quarter)%turn, 0), toward((ra+turn/2)%turn, quarter-dec)
			columns := sum(math.Cos(radians(roll)), east, math.Sin(radians(roll)), north)
			rows := sum(-math.Sin(radians(roll)), east, math.Cos(radians(roll)), north)
			for j, want := range []real{columns, rows, axis} {
				if gap := between(floats(at(m[j][0], m[j][1], m[j][2])), want); gap >= sphere.PlateErr {
					t.Errorf("row %d of Plate(%d, %d, %d) is off by %f", j, ra, dec, roll, gap)
				}
			}
		}
	}
}
