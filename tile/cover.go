package tile

import (
	"slices"

	"spyglass/api"
	"spyglass/sphere"
)

// Parts of a turn.
const (
	quarter = api.Turn / 4
	eighth  = api.Turn / 8
)

// Cone returns the tiles of a level that have a direction within the angle r of c.
func Cone(c api.Vec, r api.Arc, level int) ([]api.Tile, api.Errno) {
	if err := sphere.Check(c); err != api.OK {
		return nil, err
	}
	if r < 0 || r > eighth || !isLevel(level) {
		return nil, api.ErrRange
	}
	return cover(level, func(t api.Tile) bool { return near(t, c, r) })
}

// near reports whether a tile has a direction within the angle r, which is at most an eighth of a turn, of c.
func near(t api.Tile, c api.Vec, r api.Arc) bool {
	p, _ := placeOf(t)
	sides := p.sides()
	// If c is behind a plane by more than r, it is farther than a quarter of a turn and r from the normal. Within decides this by Cos(quarter+r), which is -Sin(r), exactly.
	if slices.ContainsFunc(sides, func(n api.Vec) bool { return !sphere.Within(n, c, quarter+r) }) {
		return false
	}
	// Unless c lies in the tile, the nearest direction of the tile is a corner, or the projection of c onto the plane of a side that c is behind.
	return sides.has(c) ||
		slices.ContainsFunc(Corners(t), func(v api.Vec) bool { return sphere.Within(v, c, r) }) ||
		slices.ContainsFunc(sides, func(n api.Vec) bool { return dot(n, c) < 0 && sides.has(foot(c, n)) })
}

// Zone returns the tiles of a level that have a direction at which none of the normals has a negative scalar product.
func Zone(normals []api.Vec, level int) ([]api.Tile, api.Errno) {
	if len(normals) > MaxNormals {
		return nil, api.ErrLarge
	}
	for _, n := range normals {
		if err := sphere.Check(n); err != api.OK {
			return nil, err
		}
	}
	if !isLevel(level) {
		return nil, api.ErrRange
	}
	return cover(level, func(t api.Tile) bool {
		p, _ := placeOf(t)
		return append(p.sides(), normals...).hasAny()
	})
}

// cover returns the tiles of a level that a set of directions meets, in increasing order; meets tells this of a tile.
func cover(level int, meets func(api.Tile) bool) ([]api.Tile, api.Errno) {
	tiles := slices.Collect(Tiles(0))
	for depth := 0; ; depth++ {
		tiles = slices.DeleteFunc(tiles, func(t api.Tile) bool { return !meets(t) })
		// Of the kids of each of these tiles, the set meets at least one, so a deeper level has no fewer tiles.
		if len(tiles) > api.MaxTiles {
			return nil, api.ErrLarge
		}
		if depth == level {
			return tiles, api.OK
		}
		tiles = divided(tiles)
	}
}

// divided returns the kids of tiles.
func divided(tiles []api.Tile) []api.Tile {
	kids := make([]api.Tile, 0, 4*len(tiles))
	for _, t := range tiles {
		kids = append(kids, Kids(t)...)
	}
	return kids
}
