package sphere

import (
	"spyglass/api"
	"spyglass/bound"
	"spyglass/num"
	"spyglass/trig"
)

// Range returns the bounds of the right ascension and of the declination of the directions that a box holds.
func Range(b api.Box) (api.Bound[api.Arc], api.Bound[api.Arc]) {
	b, ok := resized(b)
	if !ok || bound.Has(b.X, 0) && bound.Has(b.Y, 0) && bound.Has(b.Z, 0) {
		return bound.None[api.Arc](), bound.None[api.Arc]()
	}
	return raRange(b.X, b.Y), decRange(b)
}

// resized returns a box that holds the directions of b, and has its greatest end from 2^29 to 2^30: so angles are precise, and squares fit.
// It reports false if a bound is unknown, or all ends are 0.
func resized(b api.Box) (api.Box, bool) {
	xs, ys, zs := bound.Abs(b.X), bound.Abs(b.Y), bound.Abs(b.Z)
	most := int64(max(xs.Hi, ys.Hi, zs.Hi))
	if xs.Unknown || ys.Unknown || zs.Unknown || most == 0 {
		return api.Box{}, false
	}
	n, d := int64(1), int64(1)
	for most*n < 1<<29 {
		n *= 2
	}
	for num.CeilDiv(most, d) > 1<<30 {
		d *= 2
	}
	return api.Box{X: bound.Scale(b.X, n, d), Y: bound.Scale(b.Y, n, d), Z: bound.Scale(b.Z, n, d)}, true
}

// raRange returns the bound of the right ascension of the directions that bounds for X and Y admit.
func raRange(x, y api.Bound[api.Coord]) api.Bound[api.Arc] {
	if bound.Has(x, 0) && bound.Has(y, 0) {
		return bound.None[api.Arc]()
	}
	// The rectangle without the origin is seen under less than half a turn, between its outermost corners.
	corners := [4]api.Vec{{X: int64(x.Lo), Y: int64(y.Lo)}, {X: int64(x.Hi), Y: int64(y.Lo)}, {X: int64(x.Hi), Y: int64(y.Hi)}, {X: int64(x.Lo), Y: int64(y.Hi)}}
	first, last := corners[0], corners[0]
	for _, c := range corners {
		if left(c, first) {
			first = c
		}
		if left(last, c) {
			last = c
		}
	}
	from, to := angle(first.X, first.Y), angle(last.X, last.Y)
	lo := reduced(from - trig.AtanErr)
	return bound.Of(lo, lo+reduced(to-from)+2*trig.AtanErr)
}

// left reports whether b lies to the left of a, as seen from the origin.
func left(a, b api.Vec) bool { return a.X*b.Y > a.Y*b.X }

// reduced returns a, reduced to a turn.
func reduced(a api.Arc) api.Arc { return api.Arc(num.Mod(int64(a), api.Turn)) }

// decRange returns the bound of the declination of the directions that a box holds, which does not hold the origin.
func decRange(b api.Box) api.Bound[api.Arc] {
	x, y := bound.Abs(b.X), bound.Abs(b.Y)
	near := num.Sqrt(int64(x.Lo*x.Lo + y.Lo*y.Lo))
	far := rootUp(int64(x.Hi*x.Hi + y.Hi*y.Hi))
	lo, hi := slope(near, int64(b.Z.Lo)), slope(near, int64(b.Z.Hi))
	// What lies farther from the axis of the poles lies nearer to the equator.
	if b.Z.Lo >= 0 {
		lo = slope(far, int64(b.Z.Lo))
	}
	if b.Z.Hi < 0 {
		hi = slope(far, int64(b.Z.Hi))
	}
	return bound.Of(max(-quarter, lo-DecErr), min(quarter, hi+DecErr))
}

// rootUp returns the square root of n, rounded up.
func rootUp(n int64) int64 {
	root := num.Sqrt(n)
	if root*root < n {
		return root + 1
	}
	return root
}

// HasRa reports whether a right ascension, in any turn, can be a.
func HasRa(ra api.Bound[api.Arc], a api.Arc) bool {
	// A difference that does not fit loses whole turns only, since 2^64 is a whole number of them.
	return bound.Norm(ra).Unknown || reduced(a-ra.Lo) <= ra.Hi-ra.Lo
}
