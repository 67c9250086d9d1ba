package trig

import (
	"spyglass/api"
	"spyglass/num"
)

// Atan2 returns the angle from the direction (1, 0) to the direction (x, y), from 0 to Turn - 1.
func Atan2(y, x int64) (api.Arc, api.Errno) {
	if !inRange(x) || !inRange(y) {
		return 0, api.ErrRange
	}
	if x == 0 && y == 0 {
		return 0, api.ErrNone
	}
	b := steepness(max(y, -y), max(x, -x))
	if x < 0 {
		b = half - b
	}
	if y < 0 {
		b = api.Turn - b
	}
	return api.Arc(num.Mod(int64(b), api.Turn)), api.OK
}

// inRange reports whether v can be an argument of Atan2.
func inRange(v int64) bool { return -MaxAtan <= v && v <= MaxAtan }

// steepness returns the angle of the direction (u, v), neither of which is negative, up to a quarter of a turn.
func steepness(v, u int64) api.Arc {
	if v > u {
		return quarter - flat(u, v)
	}
	return flat(v, u)
}

// flat returns the greatest angle up to an eighth of a turn whose tangent, by Sin and Cos, is at most v / u, which is from 0 to 1.
func flat(v, u int64) api.Arc {
	// Up to an eighth of a turn Sin does not decrease and Cos does not increase: what holds for an angle holds for all below it.
	lo, hi := api.Arc(0), api.Arc(eighth)
	for lo < hi {
		middle := hi - (hi-lo)/2
		if int64(Sin(middle))*u <= int64(Cos(middle))*v {
			lo = middle
		} else {
			hi = middle - 1
		}
	}
	return lo
}
