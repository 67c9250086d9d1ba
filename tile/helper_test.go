package tile_test

import (
	"math"
	"math/big"
	"slices"

	"spyglass/api"
	"spyglass/trig"
)

const (
	turn    = api.Turn
	quarter = api.Turn / 4
	eighth  = api.Turn / 8
	twelfth = api.Turn / 12 // Sin of it is half of One, exactly
	rim     = api.MaxCoord
	most    = math.MaxInt64
	least   = math.MinInt64
)

type (
	vec   = api.Vec
	tiles = []api.Tile
)

// at returns a vector, which may be no direction.
func at(x, y, z int64) vec { return vec{X: x, Y: y, Z: z} }

// opposite returns -v.
func opposite(v vec) vec { return at(-v.X, -v.Y, -v.Z) }

// chance returns a number without structure, from 0 to limit - 1; state chooses it.
func chance(state uint64, limit int64) int64 {
	for range 3 {
		state = state*6364136223846793005 + 1442695040888963407
		state ^= state >> 29
	}
	return int64(state >> 1 % uint64(limit))
}

// around returns a number without structure, from -size to size.
func around(state uint64, size int64) int64 { return chance(state, 2*size+1) - size }

// drawn returns a direction without structure with components up to size.
func drawn(state uint64, size int64) vec {
	v := at(around(3*state, size), around(3*state+1, size), around(3*state+2, size))
	if v == (vec{}) {
		return at(0, 0, size)
	}
	return v
}

// directions returns directions of every sort: short and long ones, on and next to the axes, diagonals and sides of tiles, at the limits, and some without structure.
func directions() []vec {
	list := []vec{
		at(1, 0, 0), at(0, -1, 0), at(0, 0, 3), at(1, 1, 0), at(-2, 0, 2), at(0, -1, -1), at(1, 1, 1), at(-1, 1, -1), at(3, -1, 2), at(2, 1, 1), at(-2, 1, 0), at(4, 3, -4), at(1, 4, -2), at(4, 1, -3),
		at(rim, rim, rim), at(-rim, rim, -rim), at(rim, rim-1, 0), at(rim-1, -rim, rim), at(rim, 1, -1), at(-1, rim, 0), at(1-rim, 1, rim), at(1, 1, -rim), at(rim, rim/2, 1-rim), at(rim/2+1, rim, rim/2-1),
	}
	for i := range uint64(8) {
		list = append(list, drawn(i, rim), drawn(i+100, 9), drawn(i+200, 1<<(2*i+4)))
	}
	return list
}

// images returns a direction with its components in all orders and with all signs.
func images(v vec) []vec {
	var list []vec
	for _, w := range []vec{v, at(v.X, v.Z, v.Y), at(v.Y, v.X, v.Z), at(v.Y, v.Z, v.X), at(v.Z, v.X, v.Y), at(v.Z, v.Y, v.X)} {
		for i := range int64(8) {
			list = append(list, at(w.X*(1-i&1*2), w.Y*(1-i&2), w.Z*(1-i&4/2)))
		}
	}
	return list
}

// fault is a vector that is no direction, with its error.
type fault struct {
	v vec
	e api.Errno
}

// faults returns vectors that are no directions.
func faults() []fault {
	return []fault{{vec{}, api.ErrNone}, {at(rim+1, 0, 0), api.ErrRange}, {at(0, -rim-1, 0), api.ErrRange}, {at(1, 1, rim+1), api.ErrRange}, {at(most, least, 0), api.ErrRange}, {at(least, least, least), api.ErrRange}}
}

// strangers returns numbers that are no tiles.
func strangers() tiles {
	return tiles{0, 1, -1, 7, 14, 15, 31, 56, 57, 127, 224, 8<<22 - 1, 14 << 22, 8<<24 - 1, 14 << 24, 8 << 26, 14<<26 - 1, 8 << 28, -8, -32, most, most - 7, least, least + 8}
}

// noLevels returns numbers that are no levels.
func noLevels() []int { return []int{-1, 13, 14, -2, 64, -64, 1 << 32, most, least} }

// spot is where a tile lies, as the document describes it.
type spot struct {
	level, face int
	column, row int64
}

// spotOf follows a tile from its face downward.
func spotOf(t api.Tile) spot {
	if t < 14 {
		return spot{face: int(t)}
	}
	p := spotOf(t / 4)
	kid := [4][2]int64{{0, 0}, {1, 0}, {0, 1}, {1, 1}}[t%4]
	return spot{p.level + 1, p.face, 2*p.column + kid[0], 2*p.row + kid[1]}
}

// parts returns the components of a vector along the axes of the face, of the columns and of the rows.
func (s spot) parts(v vec) [3]int64 {
	switch s.face {
	case 8, 9:
		return [3]int64{v.X, v.Y, v.Z}
	case 10, 11:
		return [3]int64{v.Y, v.Z, v.X}
	}
	return [3]int64{v.Z, v.X, v.Y}
}

// sign returns the sign of the components of directions of the face along its axis.
func (s spot) sign() int64 { return int64(1 - s.face%2*2) }

// lies reports whether a direction lies in a tile.
func (s spot) lies(v vec) bool {
	p, n := s.parts(v), int64(1)<<s.level
	m := p[0] * s.sign()
	return m > 0 && (2*s.column-n)*m <= n*p[1] && n*p[1] <= (2*(s.column+1)-n)*m && (2*s.row-n)*m <= n*p[2] && n*p[2] <= (2*(s.row+1)-n)*m
}

// corner returns the corner at a column and a row.
func (s spot) corner(column, row int64) vec {
	n := int64(1) << s.level
	m, u, w := n*s.sign(), 2*column-n, 2*row-n
	switch s.face {
	case 8, 9:
		return at(m, u, w)
	case 10, 11:
		return at(w, m, u)
	}
	return at(u, w, m)
}

// round returns the corners of a tile in a circle.
func (s spot) round() [4]vec {
	return [4]vec{s.corner(s.column, s.row), s.corner(s.column+1, s.row), s.corner(s.column+1, s.row+1), s.corner(s.column, s.row+1)}
}

// long returns a number as one of any length.
func long(n int64) *big.Int { return big.NewInt(n) }

// times returns the product of numbers.
func times(factors ...*big.Int) *big.Int {
	n := long(1)
	for _, f := range factors {
		n.Mul(n, f)
	}
	return n
}

// dot returns the scalar product of two vectors of small numbers.
func dot(a, b vec) int64 { return a.X*b.X + a.Y*b.Y + a.Z*b.Z }

// scalar returns the scalar product as a number of any length.
func scalar(a, b vec) *big.Int { return long(dot(a, b)) }

// disc is the set of the directions whose angle to a direction is at most the one with a sine.
// By the cosine, v is in it if v.c > 0 and (v.c)^2 * One^2 >= (One^2 - sine^2) * v.v * c.c.
type disc struct {
	c          vec
	one, outer *big.Int // One^2, and (One^2 - sine^2) * c.c
}

// discOf returns the disc of a cone.
func discOf(c vec, r api.Arc) disc {
	s, one := int64(trig.Sin(r)), int64(api.One*api.One)
	return disc{c, long(one), times(long(one-s*s), scalar(c, c))}
}

// excess returns how much (a.c) * (b.c) * One^2 exceeds (One^2 - sine^2) * a.b * c.c.
func (d disc) excess(a, b vec) *big.Int {
	n := times(scalar(a, d.c), scalar(b, d.c), d.one)
	return n.Sub(n, times(scalar(a, b), d.outer))
}

// has reports whether a direction is in the disc.
func (d disc) has(v vec) bool { return dot(v, d.c) > 0 && d.excess(v, v).Sign() >= 0 }

// crosses reports whether a direction between a and b, but neither of them, is in a disc that has neither.
// Along a + k * (b - a), with k from 0 to 1, the excess is a polynomial of degree 2; the greatest value must be reached inside, and not be negative.
func (d disc) crosses(a, b vec) bool {
	way := at(b.X-a.X, b.Y-a.Y, b.Z-a.Z)
	p, q, r := d.excess(way, way), d.excess(a, way), d.excess(a, a)
	p.Neg(p)
	// The polynomial is r + 2qk - pk^2, with the greatest value r + q^2/p at k = q/p.
	if p.Sign() <= 0 || q.Sign() <= 0 || q.Cmp(p) >= 0 {
		return false
	}
	ahead := times(scalar(a, d.c), p)
	ahead.Add(ahead, times(q, scalar(way, d.c)))
	height := times(r, p)
	return ahead.Sign() > 0 && height.Add(height, times(q, q)).Sign() >= 0
}

// meets reports whether a direction of a tile is in the disc.
func (d disc) meets(t api.Tile) bool {
	s := spotOf(t)
	if s.lies(d.c) {
		return true
	}
	corners := s.round()
	for i, a := range corners {
		if d.has(a) || d.crosses(a, corners[(i+1)%4]) {
			return true
		}
	}
	return false
}

// flat is a point of a face: the components along the axes of columns and rows where that along the axis is 1 or -1.
type flat [2]*big.Rat

// leans returns the scalar product of a point of a face and a normal.
func (s spot) leans(p flat, normal vec) *big.Rat {
	n := s.parts(normal)
	sum := new(big.Rat).SetInt64(n[0] * s.sign())
	sum.Add(sum, new(big.Rat).Mul(p[0], new(big.Rat).SetInt64(n[1])))
	return sum.Add(sum, new(big.Rat).Mul(p[1], new(big.Rat).SetInt64(n[2])))
}

// cut returns the part of a convex figure of a face at which the scalar product with a normal is not negative.
func (s spot) cut(figure []flat, normal vec) []flat {
	var rest []flat
	for i, p := range figure {
		q := figure[(i+1)%len(figure)]
		a, b := s.leans(p, normal), s.leans(q, normal)
		if a.Sign() >= 0 {
			rest = append(rest, p)
		}
		if a.Sign()*b.Sign() < 0 {
			k := new(big.Rat).Quo(a, new(big.Rat).Sub(a, b))
			rest = append(rest, flat{between(p[0], q[0], k), between(p[1], q[1], k)})
		}
	}
	return rest
}

// between returns a + k * (b - a).
func between(a, b, k *big.Rat) *big.Rat {
	d := new(big.Rat).Sub(b, a)
	return d.Add(a, d.Mul(d, k))
}

// inZone reports whether a tile has a direction of a zone, by cutting the tile at one plane after the other.
func inZone(t api.Tile, normals []vec) bool {
	s := spotOf(t)
	n := int64(1) << s.level
	west, east, south, north := big.NewRat(2*s.column-n, n), big.NewRat(2*s.column+2-n, n), big.NewRat(2*s.row-n, n), big.NewRat(2*s.row+2-n, n)
	figure := []flat{{west, south}, {east, south}, {east, north}, {west, north}}
	for _, v := range normals {
		figure = s.cut(figure, v)
	}
	return len(figure) > 0
}

// every returns all tiles of a level.
func every(level int) tiles {
	list := make(tiles, 6<<(2*level))
	for i := range list {
		list[i] = 8<<(2*level) + api.Tile(i)
	}
	return list
}

// chosen returns the tiles of a list that meet something.
func chosen(list tiles, meets func(api.Tile) bool) tiles {
	var some tiles
	for _, t := range list {
		if meets(t) {
			some = append(some, t)
		}
	}
	return some
}

// covered returns the tiles of a level that meet something, which is looked for below those that do; if a level above has too many, it returns those.
func covered(level int, meets func(api.Tile) bool) tiles {
	list := chosen(every(0), meets)
	for range level {
		if len(list) > api.MaxTiles {
			return list
		}
		var kids tiles
		for _, t := range list {
			kids = append(kids, 4*t, 4*t+1, 4*t+2, 4*t+3)
		}
		list = chosen(kids, meets)
	}
	return list
}

// nested reports whether each tile of the list below has its parent in the list above, and each of those has a kid in the list below.
func nested(above, below tiles) bool {
	var parents tiles
	for _, t := range below {
		parents = append(parents, t/4)
	}
	return slices.Equal(above, slices.Compact(parents))
}
