package tile

import (
	"spyglass/api"
	"spyglass/sphere"
)

// place tells where a tile lies.
type place struct {
	axis        int   // of the face: 0 for X, 1 for Y, 2 for Z
	sign        int64 // of the face: 1, or -1 for the faces of -X, -Y and -Z
	size        int64 // number of the columns, and of the rows, of the face
	column, row int64
}

// placeOf returns the place of a tile; it reports false if the number is no tile.
func placeOf(t api.Tile) (place, bool) {
	level, ok := Level(t)
	if !ok {
		return place{}, false
	}
	face := int(t>>(2*level)) - firstFace
	p := place{axis: face / 2, sign: 1 - 2*int64(face%2), size: 1 << level}
	for level > 0 {
		level--
		kid := int64(t >> (2 * level) % 4)
		p.column, p.row = 2*p.column+kid%2, 2*p.row+kid/2
	}
	return p, true
}

// number returns the tile at a place.
func (p place) number() api.Tile {
	t := api.Tile(firstFace + 2*p.axis)
	if p.sign < 0 {
		t++
	}
	for half := p.size / 2; half > 0; half /= 2 {
		t = 4*t + api.Tile(p.row/half%2*2+p.column/half%2)
	}
	return t
}

// Of returns the tile of a level in which a direction lies.
func Of(v api.Vec, level int) (api.Tile, api.Errno) {
	if err := sphere.Check(v); err != api.OK {
		return 0, err
	}
	if !isLevel(level) {
		return 0, api.ErrRange
	}
	p := place{axis: mainAxis(v), sign: 1, size: 1 << level}
	v = rotate(v, p.axis)
	if v.X < 0 {
		p.sign = -1
	}
	p.column, p.row = part(v.Y, size(v.X), p.size), part(v.Z, size(v.X), p.size)
	return p.number(), api.OK
}

// mainAxis returns the first axis along which the absolute value of the component is the greatest one: 0 for X, 1 for Y, 2 for Z.
func mainAxis(v api.Vec) int {
	switch x, y, z := size(v.X), size(v.Y), size(v.Z); max(x, y, z) {
	case x:
		return 0
	case y:
		return 1
	}
	return 2
}

// size returns the absolute value of a small number.
func size(n int64) int64 { return max(n, -n) }

// rotate renames the axes of a vector in a circle, n times. After as many times as is the number of the axis of a face, X is along this axis, and Y and Z are along those of its columns and rows.
func rotate(v api.Vec, n int) api.Vec {
	for range n {
		v = api.Vec{X: v.Y, Y: v.Z, Z: v.X}
	}
	return v
}

// part returns in which of n equal parts of the numbers from -m to m a number lies; of two parts that meet there, it is the upper one.
func part(u, m, n int64) int64 { return min((u+m)*n/(2*m), n-1) }

// Corners returns the directions of the four corners of a tile, in the order of its kids; there are none if it is no tile.
func Corners(t api.Tile) []api.Vec {
	p, ok := placeOf(t)
	if !ok {
		return nil
	}
	west, east, south, north := p.edges()
	return []api.Vec{p.vector(p.size, west, south), p.vector(p.size, east, south), p.vector(p.size, west, north), p.vector(p.size, east, north)}
}

// edges returns the least and the greatest component along the axis of the columns, and along that of the rows, where the component along the axis of the face is its size.
func (p place) edges() (int64, int64, int64, int64) {
	west, south := 2*p.column-p.size, 2*p.row-p.size
	return west, west + 2, south, south + 2
}

// vector returns a vector by its components along the axis of the face, outward, and along the axes of columns and rows.
func (p place) vector(out, column, row int64) api.Vec {
	return rotate(api.Vec{X: p.sign * out, Y: column, Z: row}, 3-p.axis)
}

// sides returns the planes through the sides of a tile.
// Opposite sides meet at the center of the sphere, so the zone is the tile alone, without its mirror image on the other face.
func (p place) sides() zone {
	west, east, south, north := p.edges()
	return zone{p.vector(-west, p.size, 0), p.vector(east, -p.size, 0), p.vector(-south, 0, p.size), p.vector(north, 0, -p.size)}
}

// Has reports whether a direction lies in a tile, its sides and corners included.
func Has(t api.Tile, v api.Vec) bool {
	p, ok := placeOf(t)
	return ok && sphere.Check(v) == api.OK && p.sides().has(v)
}
