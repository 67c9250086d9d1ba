package sphere_test

import (
	"math"
	"math/big"

	"spyglass/api"
)

const (
	top     = api.MaxNum
	turn    = api.Turn
	quarter = api.Turn / 4
	rim     = api.MaxCoord
	most    = math.MaxInt64
	least   = math.MinInt64
)

type (
	vec    = api.Vec
	arcs   = api.Bound[api.Arc]
	fixes  = api.Bound[api.Fix]
	subs   = api.Bound[api.Sub]
	coords = api.Bound[api.Coord]
)

var (
	noArc   = arcs{Unknown: true}
	noCoord = coords{Unknown: true}
	noBox   = api.Box{X: noCoord, Y: noCoord, Z: noCoord}
)

// at returns a vector, which may be no direction.
func at(x, y, z int64) vec { return vec{X: x, Y: y, Z: z} }

// from returns the bound from lo to hi, which may be invalid.
func from(lo, hi api.Coord) coords { return coords{Lo: lo, Hi: hi} }

// chance returns a number without structure, from 0 to limit - 1; state chooses it.
func chance(state uint64, limit int64) int64 {
	for range 3 {
		state = state*6364136223846793005 + 1442695040888963407
		state ^= state >> 29
	}
	return int64(state >> 1 % uint64(limit))
}

// around returns a number without structure, from -size to size.
func around(state uint64, size int64) int64 { return chance(state, 2*size+1) - size }

// drawn returns a direction without structure with components up to size.
func drawn(state uint64, size int64) vec {
	v := at(around(3*state, size), around(3*state+1, size), around(3*state+2, size))
	if v == (vec{}) {
		return at(0, 0, size)
	}
	return v
}

// directions returns directions of every sort: short and long ones, on and next to the axes and diagonals, at the limits, and some without structure.
func directions() []vec {
	list := []vec{
		at(1, 0, 0), at(0, -1, 0), at(0, 0, 1), at(0, 0, -rim), at(rim, 0, 0), at(1, 1, 0), at(1, 0, 1), at(2, 1, 1), at(-1, -1, 0), at(0, -1, -1), at(3, 4, 0), at(-4, 3, 0), at(1, 2, 3),
		at(rim, rim, rim), at(-rim, -rim, -rim), at(-rim, rim, -rim), at(rim, rim-1, 0), at(rim-1, rim-2, 0), at(1-rim, 1, rim), at(rim, 1, 0), at(rim, -1, 0), at(-rim, 1, 0), at(0, 1, rim), at(1, 0, -rim), at(1, 1, rim), at(0, rim, 1), at(0, rim, -1),
	}
	for i := range uint64(12) {
		list = append(list, drawn(i, rim), drawn(i+100, 40), drawn(i+200, 1<<(i+3)))
	}
	return list
}

// faults returns vectors that are no directions, with their errors.
func faults() map[vec]api.Errno {
	list := map[vec]api.Errno{{}: api.ErrNone, at(rim, rim+1, -rim): api.ErrRange, at(most, least, 0): api.ErrRange}
	for _, n := range []int64{rim + 1, -rim - 1, 2 * rim, -2 * rim, top, most, -most, least} {
		list[at(n, 0, 0)], list[at(0, n, 0)], list[at(0, 0, n)] = api.ErrRange, api.ErrRange, api.ErrRange
	}
	return list
}

// plates returns plates of every sort: with few numbers, at the limits, and some without structure.
func plates() []api.Plate {
	const edge = api.MaxQuat
	list := []api.Plate{
		{A: 1}, {B: 1}, {C: 1}, {D: 1}, {A: -1}, {A: 1, B: 1}, {A: 1, C: 1}, {A: 1, D: 1}, {A: 1, B: 1, C: 1, D: 1}, {A: 512, B: -512, C: -512, D: -512}, {A: 1, B: 2, C: 3, D: 4}, {A: -4, B: 3, C: -2, D: 1},
		{A: edge, B: edge, C: edge, D: edge}, {A: -edge, B: -edge, C: -edge, D: -edge}, {A: edge, B: -edge, C: 1}, {A: edge}, {B: -edge}, {C: edge}, {D: -edge},
	}
	for i := range uint64(12) {
		a, b := drawn(i+300, edge), drawn(i+400, 9)
		list = append(list, api.Plate{A: a.X, B: a.Y, C: a.Z, D: around(i, edge)}, api.Plate{A: b.X, B: b.Y, C: b.Z, D: around(i, 9)})
	}
	return list
}

// faultyPlates returns what is no plate, with the errors.
func faultyPlates() map[api.Plate]api.Errno {
	const edge = api.MaxQuat
	list := map[api.Plate]api.Errno{{}: api.ErrNone, {A: edge + 1, B: 5, C: 5, D: 5}: api.ErrRange}
	for _, n := range []int64{edge + 1, -edge - 1, most, least} {
		list[api.Plate{A: n}], list[api.Plate{B: n}], list[api.Plate{C: n}], list[api.Plate{D: n}] = api.ErrRange, api.ErrRange, api.ErrRange, api.ErrRange
	}
	return list
}

// invalid returns bounds of components that are unknown or not valid.
func invalid() []coords {
	return []coords{noCoord, from(2, 1), from(0, -1), from(top+1, top+1), from(0, top+1), from(-top-1, 0), from(least, most), from(most, least), {Lo: 1, Hi: 1, Unknown: true}, {Hi: 5, Unknown: true}, {Lo: -5, Unknown: true}}
}

// long returns a number as one of any length.
func long(n int64) *big.Int { return big.NewInt(n) }

// times returns the product of numbers.
func times(factors ...*big.Int) *big.Int {
	n := long(1)
	for _, f := range factors {
		n.Mul(n, f)
	}
	return n
}

// scalar returns the scalar product of two vectors.
func scalar(a, b vec) *big.Int {
	n := times(long(a.X), long(b.X))
	n.Add(n, times(long(a.Y), long(b.Y)))
	return n.Add(n, times(long(a.Z), long(b.Z)))
}

// floor returns a / b, rounded down.
func floor(a, b *big.Int) *big.Int {
	quotient, rest := new(big.Int).QuoRem(a, b, new(big.Int))
	if rest.Sign()*b.Sign() < 0 {
		quotient.Sub(quotient, long(1))
	}
	return quotient
}

// ceil returns a / b, rounded up.
func ceil(a, b *big.Int) *big.Int {
	down := floor(new(big.Int).Neg(a), b)
	return down.Neg(down)
}

// nearest returns a / b, rounded to the nearest number, halves away from 0; b is positive.
func nearest(a, b *big.Int) int64 {
	up := new(big.Int).Add(new(big.Int).Lsh(new(big.Int).Abs(a), 1), b)
	n := floor(up, new(big.Int).Lsh(b, 1)).Int64()
	if a.Sign() < 0 {
		return -n
	}
	return n
}

// radians returns an angle in radians.
func radians(a api.Arc) float64 { return float64(a) / turn * 2 * math.Pi }

// inArcs returns an angle that is given in radians.
func inArcs(a float64) float64 { return a / (2 * math.Pi) * turn }

// real is a vector of real numbers.
type real [3]float64

// floats returns a vector as one of real numbers.
func floats(v vec) real { return real{float64(v.X), float64(v.Y), float64(v.Z)} }

// toward returns the real direction with a right ascension and a declination.
func toward(ra, dec api.Arc) real {
	return real{math.Cos(radians(dec)) * math.Cos(radians(ra)), math.Cos(radians(dec)) * math.Sin(radians(ra)), math.Sin(radians(dec))}
}

// between returns the real angle between two directions, in arcs.
func between(a, b real) float64 {
	cross := real{a[1]*b[2] - a[2]*b[1], a[2]*b[0] - a[0]*b[2], a[0]*b[1] - a[1]*b[0]}
	size := math.Sqrt(cross[0]*cross[0] + cross[1]*cross[1] + cross[2]*cross[2])
	return inArcs(math.Atan2(size, a[0]*b[0]+a[1]*b[1]+a[2]*b[2]))
}
