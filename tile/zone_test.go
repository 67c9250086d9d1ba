package tile_test

import (
	"slices"
	"testing"

	"spyglass/api"
	"spyglass/tile"
)

// diagonal returns normals of the zone that has the direction (1, 1, 1) alone.
func diagonal() []vec {
	return []vec{at(1, -1, 0), at(-1, 1, 0), at(1, 0, -1), at(-1, 0, 1), at(1, 1, 1)}
}

// window returns normals of the zone of all directions (1, y, z) with y and z from e/rim - 1 to 1 - e/rim.
func window(e int64) []vec {
	return []vec{at(rim-e, -rim, 0), at(rim-e, rim, 0), at(rim-e, 0, -rim), at(rim-e, 0, rim)}
}

// P11.5: known zones: everything, halves and quarters, great circles, single directions, and nothing.
func TestZone(t *testing.T) {
	x, y, z := at(1, 0, 0), at(0, 1, 0), at(0, 0, 1)
	west, south, down := opposite(x), opposite(y), opposite(z)
	for _, c := range []struct {
		normals []vec
		level   int
		want    tiles
	}{
		{nil, 0, every(0)}, {nil, 4, every(4)},
		{[]vec{x}, 0, tiles{8, 10, 11, 12, 13}}, {[]vec{west}, 0, tiles{9, 10, 11, 12, 13}}, {[]vec{y}, 0, tiles{8, 9, 10, 12, 13}}, {[]vec{down}, 0, tiles{8, 9, 10, 11, 13}}, {[]vec{at(1, 1, 0)}, 0, every(0)}, {[]vec{at(3, 1, 1)}, 0, tiles{8, 10, 11, 12, 13}}, {[]vec{at(2, 1, 1)}, 0, every(0)},
		// Quarters and eighths: the faces of Z and -Z have corners at (0, 0, 1) and (0, 0, -1).
		{[]vec{x, y}, 0, tiles{8, 10, 12, 13}}, {[]vec{x, y}, 1, tiles{32, 33, 34, 35, 40, 41, 42, 43, 48, 49, 50, 51, 52, 53, 54, 55}}, {[]vec{x, y, z}, 0, tiles{8, 10, 12}}, {[]vec{west, south, down}, 0, tiles{9, 11, 13}},
		// Great circles, halves of them, and single directions.
		{[]vec{x, west}, 0, tiles{10, 11, 12, 13}}, {[]vec{z, down}, 0, tiles{8, 9, 10, 11}}, {[]vec{x, west, y}, 0, tiles{10, 12, 13}}, {[]vec{x, west, y, south}, 0, tiles{12, 13}}, {[]vec{x, west, y, south, z}, 0, tiles{12}}, {[]vec{x, west, y, south, down}, 2, tiles{211, 214, 217, 220}}, {diagonal(), 0, tiles{8, 10, 12}}, {diagonal(), 12, tiles{9<<24 - 1, 11<<24 - 1, 13<<24 - 1}},
		// Some planes more than once, and as many as there may be.
		{[]vec{x, x, at(5, 0, 0), at(rim, 0, 0), west, west, y, y}, 0, tiles{10, 12, 13}},
		// No direction.
		{[]vec{x, west, y, south, z, down}, 0, nil}, {[]vec{x, west, y, south, z, down}, 12, nil}, {[]vec{at(-1, -1, -1), x, y, z}, 0, nil}, {[]vec{at(-1, 1, 0), at(-1, -1, 0), x, at(0, 1, 1), at(0, 1, -1), at(0, -1, 0)}, 5, nil},
		// Up to the sides of a face, and short of some of them.
		{window(0), 0, tiles{8, 10, 11, 12, 13}}, {window(1), 0, tiles{8}}, {append(window(0)[:2:2], window(1)[2:]...), 0, tiles{8, 10, 11}}, {append(window(1)[:3:3], window(0)[3]), 0, tiles{8, 13}}, {append(window(0)[:1:1], window(1)[1:]...), 0, tiles{8, 10}},
	} {
		if l, e := tile.Zone(c.normals, c.level); !slices.Equal(l, c.want) || e != api.OK {
			t.Errorf("Zone(%v, %d) is %v, %d, not %v", c.normals, c.level, l, e, c.want)
		}
	}
}

// P11.5: the errors, and their order.
func TestZoneErrors(t *testing.T) {
	x := at(1, 0, 0)
	for _, level := range append(noLevels(), 0, 12) {
		for _, l := range [][]vec{make([]vec, 9), {x, x, x, x, x, x, x, x, x}, make([]vec, 500), {x, x, x, x, x, x, x, x, at(rim+1, 0, 0)}} {
			if n, e := tile.Zone(l, level); len(n) != 0 || e != api.ErrLarge {
				t.Errorf("Zone of %d normals, %d is %v, %d", len(l), level, n, e)
			}
		}
		for i, f := range faults() {
			for _, l := range [][]vec{{f.v}, {x, f.v}, {x, x, x, x, x, x, x, f.v}, {x, f.v, faults()[(i+1)%4].v}} {
				if n, e := tile.Zone(l, level); len(n) != 0 || e != f.e {
					t.Errorf("Zone(%v, %d) is %v, %d", l, level, n, e)
				}
			}
		}
	}
	for _, level := range noLevels() {
		for _, l := range [][]vec{nil, {x}, diagonal()} {
			if n, e := tile.Zone(l, level); len(n) != 0 || e != api.ErrRange {
				t.Errorf("Zone(%v, %d) is %v, %d", l, level, n, e)
			}
		}
	}
	for level := 5; level <= 12; level++ {
		if n, e := tile.Zone(nil, level); len(n) != 0 || e != api.ErrLarge {
			t.Errorf("Zone of level %d has %d tiles, %d", level, len(n), e)
		}
	}
}

// P11.5: as many tiles as there may be, and one too many.
func TestZoneLimit(t *testing.T) {
	// A face short of its sides has 64 * 64 tiles.
	if l, e := tile.Zone(window(1024), 6); !slices.Equal(l, every(6)[:4096]) || e != api.OK {
		t.Errorf("at the limit: %d tiles, %d", len(l), e)
	}
	// One of the planes leans out, over the side, right at the corner where Z is greatest.
	beyond := window(1)
	beyond[0] = at(rim-1024, -rim, 1025)
	if l := covered(6, func(n api.Tile) bool { return inZone(n, beyond) }); len(l) != api.MaxTiles+1 {
		t.Fatalf("beyond the limit there are %d tiles", len(l))
	}
	if l, e := tile.Zone(beyond, 6); len(l) != 0 || e != api.ErrLarge {
		t.Errorf("beyond the limit: %d tiles, %d", len(l), e)
	}
}

// zones returns the normals of zones of every sort: wide ones, narrow ones, with edges on the sides of tiles, with long and with short normals.
func zones() [][]vec {
	list := [][]vec{nil, {at(1, 0, 0)}, {at(0, -1, 0)}, {at(1, -1, 0), at(1, 1, 0), at(1, 0, -1), at(1, 0, 1)}, {at(1, -2, 0), at(1, 2, 0)}, {at(0, 1, -1), at(0, -1, 1)}, {at(2, 1, 1), at(-2, -1, -1)}, {at(2, -1, -1), at(-2, 1, 1), at(0, 1, -1)}, diagonal(), diagonal()[:4], diagonal()[:3], window(0), window(1), window(rim / 2), window(rim/2 + 1)}
	for i, v := range images(at(rim, rim, rim)) {
		list = append(list, []vec{v, at(rim, -rim, 1-rim), at(-rim, 1-rim, rim)}, []vec{v, opposite(v), at(1-rim, rim, rim), at(rim-1, rim, -rim)}[:2+i%3])
	}
	for i := range uint64(160) {
		var normals []vec
		for j := range i%8 + 1 {
			v := drawn(i*8+j, 1<<(i%21))
			// Normals that lean toward one direction leave a zone even if there are many.
			if a := drawn(i, rim/2); i%2 == 0 {
				v = at(a.X+v.X/2, a.Y+v.Y/2, a.Z+v.Z/2)
			}
			normals = append(normals, v)
		}
		list = append(list, normals)
		if i%5 == 0 {
			list = append(list, append(normals[:min(7, len(normals))], opposite(normals[0])))
		}
	}
	return list
}

// P11.5: of all the tiles of the upper levels, those of the zone are the ones of which something is left by all planes.
func TestZoneByRule(t *testing.T) {
	for i, normals := range zones() {
		for level := range 4 {
			if level == 3 && i%6 != 0 {
				continue
			}
			want := chosen(every(level), func(n api.Tile) bool { return inZone(n, normals) })
			if l, e := tile.Zone(normals, level); !slices.Equal(l, want) || e != api.OK {
				t.Fatalf("Zone(%v, %d) is %v, %d, not %v", normals, level, l, e, want)
			}
		}
	}
}

// patch returns normals of a zone around the direction v, whose components are at most 500; the zone is a few tiles of a level wide, or empty.
func patch(v vec, level int, state uint64) []vec {
	wide := min(1000, int64(4096)>>level+2)
	var normals []vec
	for i := range state%3 + 2 {
		a := drawn(state*9+i, 8)
		way := at(a.Y*v.Z-a.Z*v.Y, a.Z*v.X-a.X*v.Z, a.X*v.Y-a.Y*v.X)
		for j, k := range []int64{64, -64} {
			lean := chance(state*8+2*i+uint64(j), wide) - wide/8
			n := at(k*way.X+lean*v.X, k*way.Y+lean*v.Y, k*way.Z+lean*v.Z)
			if n != (vec{}) {
				normals = append(normals, n)
			}
		}
	}
	return normals
}

// P11.5: zones of all levels.
func TestZoneBelow(t *testing.T) {
	some := 0
	for i := range uint64(260) {
		level := int(i % 13)
		normals := patch(drawn(i, 500), level, i)
		want := covered(level, func(n api.Tile) bool { return inZone(n, normals) })
		if l, e := tile.Zone(normals, level); !slices.Equal(l, want) || e != api.OK {
			t.Fatalf("Zone(%v, %d) is %v, %d, not %v", normals, level, l, e, want)
		}
		if len(want) > 2 {
			some++
		}
	}
	if some < 100 {
		t.Errorf("only %d zones have more than two tiles", some)
	}
}

// P11.6: each tile of a zone lies in one of the level above, and has a kid in that of the level below.
func TestZoneNested(t *testing.T) {
	for _, normals := range zones() {
		above, e := tile.Zone(normals, 0)
		for level := 1; level <= 12 && e == api.OK; level++ {
			var below tiles
			if below, e = tile.Zone(normals, level); e == api.OK && !nested(above, below) {
				t.Fatalf("Zone(%v, %d) is %v, below %v", normals, level, below, above)
			}
			above = below
		}
	}
}
