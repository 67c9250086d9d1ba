package trig

import (
	"spyglass/api"
	"spyglass/bound"
	"spyglass/num"
)

// SinBound returns the bound of the sine of an angle.
func SinBound(a api.Bound[api.Arc]) api.Bound[api.Fix] { return wave(a, Sin, quarter) }

// CosBound returns the bound of the cosine of an angle.
func CosBound(a api.Bound[api.Arc]) api.Bound[api.Fix] { return wave(a, Cos, 0) }

// wave returns the bound of f, the sine or the cosine, which is 1 at crest and -1 half a turn from there.
func wave(a api.Bound[api.Arc], f func(api.Arc) api.Fix, crest api.Arc) api.Bound[api.Fix] {
	if bound.Norm(a).Unknown {
		return bound.None[api.Fix]()
	}
	lo, hi := api.Fix(-api.One), api.Fix(api.One)
	first, last := f(a.Lo), f(a.Hi)
	// Between crests f is greatest at an end, and between troughs least.
	if !admits(a, crest) {
		hi = min(hi, max(first, last)+TrigErr)
	}
	if !admits(a, crest+half) {
		lo = max(lo, min(first, last)-TrigErr)
	}
	return bound.Of(lo, hi)
}

// admits reports whether a, which is valid, admits an angle that differs from angle by whole turns.
func admits(a api.Bound[api.Arc], angle api.Arc) bool {
	ahead := num.Mod(int64(angle-a.Lo), api.Turn)
	return a.Lo+api.Arc(ahead) <= a.Hi
}
