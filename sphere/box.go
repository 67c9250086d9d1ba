package sphere

import (
	"spyglass/api"
	"spyglass/bound"
	"spyglass/frac"
)

// BoxOf returns the box of a direction that is known; of what is no direction nothing is known.
func BoxOf(v api.Vec) api.Box {
	if Check(v) != api.OK {
		none := bound.None[api.Coord]()
		return api.Box{X: none, Y: none, Z: none}
	}
	return api.Box{X: bound.Exact(api.Coord(v.X)), Y: bound.Exact(api.Coord(v.Y)), Z: bound.Exact(api.Coord(v.Z))}
}

// InBox reports whether a box holds a direction: whether a positive multiple of it lies within the three bounds.
func InBox(b api.Box, v api.Vec) bool {
	if Check(v) != api.OK {
		return false
	}
	xs, ys, zs := factors(b.X, v.X), factors(b.Y, v.Y), factors(b.Z, v.Z)
	least := larger(xs.least, larger(ys.least, zs.least))
	most := smaller(xs.most, smaller(ys.most, zs.most))
	return most.Num > 0 && frac.Cmp(least, most) <= 0
}

// span says that a number lies from least to most.
type span struct{ least, most api.Frac }

// factors returns the span of the positive numbers whose product with c, the component of a direction, is admitted by b; it may have other numbers too.
// No factor beyond MaxNum is needed: an end of a bound is at most MaxNum, and a component that is not 0 at least 1.
func factors(b api.Bound[api.Coord], c int64) span {
	zero, limit := api.Frac{Den: 1}, api.Frac{Num: api.MaxNum, Den: 1}
	switch {
	case bound.Norm(b).Unknown || c == 0 && bound.Has(b, 0):
		return span{zero, limit}
	case c == 0:
		return span{zero, zero}
	case c < 0:
		return factors(bound.Neg(b), -c)
	}
	// The ends are at most MaxNum, so these quotients are valid.
	least, _ := frac.Make(int64(b.Lo), c)
	most, _ := frac.Make(int64(b.Hi), c)
	return span{least, most}
}

// larger returns the larger one of two numbers.
func larger(a, b api.Frac) api.Frac {
	if frac.Cmp(a, b) < 0 {
		return b
	}
	return a
}

// smaller returns the smaller one of two numbers.
func smaller(a, b api.Frac) api.Frac {
	if frac.Cmp(a, b) > 0 {
		return b
	}
	return a
}

// Inside reports whether each bound of box a is inside that of box b.
func Inside(a, b api.Box) bool {
	return bound.Inside(a.X, b.X) && bound.Inside(a.Y, b.Y) && bound.Inside(a.Z, b.Z)
}
