package horizon_test

import (
	"math"
	"math/big"

	"spyglass/api"
	"spyglass/bound"
)

const (
	top     = api.MaxNum
	one     = api.One
	turn    = api.Turn
	quarter = api.Turn / 4
	eighth  = api.Turn / 8
	rim     = api.MaxCoord
	most    = math.MaxInt64
	least   = math.MinInt64
)

type (
	vec   = api.Vec
	arcs  = api.Bound[api.Arc]
	fixes = api.Bound[api.Fix]
)

var (
	noArc = arcs{Unknown: true}
	noFix = fixes{Unknown: true}
)

// at returns a vector, which may be no direction.
func at(x, y, z int64) vec { return vec{X: x, Y: y, Z: z} }

// exactly returns the bound of one angle.
func exactly(a api.Arc) arcs { return arcs{Lo: a, Hi: a} }

// chance returns a number without structure, from 0 to limit - 1; state chooses it.
func chance(state uint64, limit int64) int64 {
	for range 3 {
		state = state*6364136223846793005 + 1442695040888963407
		state ^= state >> 29
	}
	return int64(state >> 1 % uint64(limit))
}

// around returns a number without structure, from -size to size.
func around(state uint64, size int64) int64 { return chance(state, 2*size+1) - size }

// drawn returns a direction without structure with components up to size.
func drawn(state uint64, size int64) vec {
	v := at(around(3*state, size), around(3*state+1, size), around(3*state+2, size))
	if v == (vec{}) {
		return at(0, 0, size)
	}
	return v
}

// directions returns directions of every sort: short and long ones, on and next to the axes and diagonals, at the limits, and some without structure.
func directions() []vec {
	list := []vec{
		at(1, 0, 0), at(0, 1, 0), at(0, 0, 1), at(-1, 0, 0), at(0, -rim, 0), at(0, 0, -3), at(1, 0, 1), at(0, 5, -5), at(3, 4, 0), at(-4, 0, 3), at(1, 2, 3), at(1, 1, 1),
		at(rim, rim, rim), at(-rim, -rim, rim), at(rim, -1, 0), at(-1, rim, 1), at(1, 1, rim), at(-1, 0, 1-rim), at(rim/2+1, rim/2+1, 0), at(-rim/2-1, 1, rim/2+1),
	}
	for i := range uint64(10) {
		list = append(list, drawn(i, rim), drawn(i+100, 40), drawn(i+200, 1<<(2*i+1)))
	}
	return list
}

// faults returns vectors that are no directions, with their errors.
func faults() map[vec]api.Errno {
	return map[vec]api.Errno{{}: api.ErrNone, at(rim+1, 0, 0): api.ErrRange, at(0, -rim-1, 0): api.ErrRange, at(1, 1, rim+1): api.ErrRange, at(most, least, 0): api.ErrRange}
}

// sites returns valid sites: at and next to the limits and the special latitudes, and some without structure.
func sites() []api.Site {
	list := []api.Site{
		{}, {Lat: quarter}, {Lat: -quarter}, {Lat: eighth}, {Lat: -eighth, Lon: quarter}, {Lat: quarter - 1, Lon: turn - 1}, {Lat: 1 - quarter, Lon: 1}, {Lat: 1, Lon: turn / 2}, {Lat: -1, Lon: 3 * quarter}, {Lat: turn / 12, Lon: turn / 12},
	}
	for i := range uint64(8) {
		list = append(list, api.Site{Lat: api.Arc(around(i+900, quarter)), Lon: api.Arc(chance(i+950, turn))})
	}
	return list
}

// faultySites returns sites that are not valid.
func faultySites() []api.Site {
	return []api.Site{{Lat: quarter + 1}, {Lat: -quarter - 1}, {Lon: -1}, {Lon: turn}, {Lat: most}, {Lat: least}, {Lon: most}, {Lon: least}, {Lat: quarter + 1, Lon: turn}, {Lat: -turn, Lon: 5}}
}

// invalid returns bounds of angles that are unknown or not valid.
func invalid() []arcs {
	return []arcs{noArc, {Lo: 2, Hi: 1}, {Hi: -1}, {Lo: top + 1, Hi: top + 1}, {Hi: top + 1}, {Lo: -top - 1}, {Lo: least, Hi: most}, {Lo: most, Hi: least}, {Lo: 1, Hi: 1, Unknown: true}, {Hi: 5, Unknown: true}, {Lo: -5, Unknown: true}}
}

// spans returns valid bounds of sidereal angles: exact ones, short ones, some of about a turn, and some at the limits.
func spans() []arcs {
	list := []arcs{exactly(0), exactly(eighth), exactly(turn), exactly(-quarter), exactly(top - turn), exactly(-top), {Lo: -top, Hi: turn - top}, {Lo: top - turn - 3*quarter, Hi: top - turn}, {Hi: 1}, {Hi: quarter}, {Hi: turn - 1}, {Hi: turn}, {Lo: -turn, Hi: 9 * turn}, {Lo: eighth, Hi: 5 * eighth}, {Lo: quarter - 1, Hi: quarter}, {Lo: quarter + 1, Hi: quarter + 7}}
	for i := range uint64(8) {
		a, b := api.Arc(around(i+600, 3*turn)), api.Arc(around(i+700, top/2))
		list = append(list, exactly(a), exactly(b), arcs{Lo: a, Hi: a + api.Arc(chance(i+800, turn))}, arcs{Lo: b, Hi: b + api.Arc(chance(i, 1<<(3*i+1)))})
	}
	return list
}

// rest returns the remainder of a and n, from 0 to n - 1.
func rest(a, n int64) int64 { return (a%n + n) % n }

// ratio returns a rational number.
func ratio(a, b *big.Int) *big.Rat { return new(big.Rat).SetFrac(a, b) }

// long returns a number as one of any length.
func long(n int64) *big.Int { return big.NewInt(n) }

// times returns the product of numbers.
func times(factors ...*big.Int) *big.Int {
	n := long(1)
	for _, f := range factors {
		n.Mul(n, f)
	}
	return n
}

// floor returns a / b, rounded down; b is positive.
func floor(a, b *big.Int) *big.Int { return new(big.Int).Div(a, b) }

// span is a bound whose ends have any length.
type span struct{ lo, hi *big.Int }

// spanOf returns a bound as a span.
func spanOf(b fixes) span { return span{long(int64(b.Lo)), long(int64(b.Hi))} }

// enclosed returns the span of the whole numbers around some rational numbers.
func enclosed(list ...*big.Rat) span {
	lowest, highest := list[0], list[0]
	for _, r := range list {
		if r.Cmp(lowest) < 0 {
			lowest = r
		}
		if r.Cmp(highest) > 0 {
			highest = r
		}
	}
	up := floor(new(big.Int).Neg(highest.Num()), highest.Denom())
	return span{floor(lowest.Num(), lowest.Denom()), up.Neg(up)}
}

// plus returns the sum of two spans.
func (s span) plus(t span) span {
	return span{new(big.Int).Add(s.lo, t.lo), new(big.Int).Add(s.hi, t.hi)}
}

// by returns the product of two spans, of which unit is 1.
func (s span) by(t span, unit *big.Int) span {
	return enclosed(ratio(times(s.lo, t.lo), unit), ratio(times(s.lo, t.hi), unit), ratio(times(s.hi, t.lo), unit), ratio(times(s.hi, t.hi), unit))
}

// over returns the quotient of two spans, of which unit is 1; t is positive.
func (s span) over(t span, unit *big.Int) span {
	return enclosed(ratio(times(s.lo, unit), t.lo), ratio(times(s.lo, unit), t.hi), ratio(times(s.hi, unit), t.lo), ratio(times(s.hi, unit), t.hi))
}

// root returns the span of the square root of n.
func root(n *big.Int) span {
	lo := new(big.Int).Sqrt(n)
	hi := new(big.Int).Set(lo)
	if times(lo, lo).Cmp(n) < 0 {
		hi.Add(hi, long(1))
	}
	return span{lo, hi}
}

// nearest returns a / b, rounded to the nearest number, halves away from 0; b is positive.
func nearest(a, b *big.Int) int64 {
	size := new(big.Int).Lsh(new(big.Int).Abs(a), 1)
	n := floor(size.Add(size, b), new(big.Int).Lsh(b, 1)).Int64()
	if a.Sign() < 0 {
		return -n
	}
	return n
}

// radians returns an angle in arcs in radians.
func radians(a float64) float64 { return a / turn * 2 * math.Pi }

// real is a vector of real numbers: toward north, toward east, and up.
type real [3]float64

// seen returns where a direction really stands if the sidereal angle at the site is local; the result has the length 1.
func seen(lat api.Arc, local float64, v vec) real {
	x, y, z := float64(v.X), float64(v.Y), float64(v.Z)
	size := math.Sqrt(x*x + y*y + z*z)
	x, y, z = x/size, y/size, z/size
	cos, sin := math.Cos(radians(local)), math.Sin(radians(local))
	p, q := math.Cos(radians(float64(lat))), math.Sin(radians(float64(lat)))
	out := x*cos + y*sin
	return real{z*p - out*q, y*cos - x*sin, z*q + out*p}
}

// toward returns where a pose points.
func toward(p api.Pose) real {
	az, alt := radians(float64(p.Az)), radians(float64(p.Alt))
	return real{math.Cos(alt) * math.Cos(az), math.Cos(alt) * math.Sin(az), math.Sin(alt)}
}

// between returns the real angle between two vectors, in arcs.
func between(a, b real) float64 {
	cross := real{a[1]*b[2] - a[2]*b[1], a[2]*b[0] - a[0]*b[2], a[0]*b[1] - a[1]*b[0]}
	size := math.Sqrt(cross[0]*cross[0] + cross[1]*cross[1] + cross[2]*cross[2])
	return math.Atan2(size, a[0]*b[0]+a[1]*b[1]+a[2]*b[2]) / (2 * math.Pi) * turn
}

// inner returns bounds that are inside b, some of them with an end of it.
func inner(b arcs, state uint64) []arcs {
	if b.Unknown {
		return []arcs{noArc, {Lo: -5, Hi: 5}, exactly(0), {Lo: -top, Hi: top}}
	}
	width := int64(b.Hi - b.Lo)
	lo := b.Lo + api.Arc(chance(state, width+1))
	hi := lo + api.Arc(chance(state+1, int64(b.Hi-lo)+1))
	return []arcs{b, exactly(b.Lo), exactly(b.Hi), {Lo: lo, Hi: hi}, {Lo: b.Lo, Hi: lo}, {Lo: hi, Hi: b.Hi}, exactly(lo), bound.Of(min(b.Lo+1, b.Hi), b.Hi), bound.Of(b.Lo, max(b.Lo, b.Hi-1))}
}
