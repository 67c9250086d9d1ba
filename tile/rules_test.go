package tile_test

import (
	"reflect"
	"slices"
	"testing"

	"spyglass/api"
	"spyglass/sphere"
	"spyglass/tile"
)

// outcome is all that the functions of the package return for some arguments.
type outcome struct {
	level                             int
	isTile, isKid, has                bool
	parent, of                        api.Tile
	kids, first, cone, zone           tiles
	corners                           []vec
	checked, ofErr, coneErr, zoneErrs api.Errno
}

// all calls every function of the package.
func all(n api.Tile, v vec, normals []vec, r api.Arc, level int) (o outcome) {
	o.level, o.isTile = tile.Level(n)
	o.parent, o.isKid = tile.Parent(n)
	o.checked, o.kids, o.corners, o.has = tile.Check(n), tile.Kids(n), tile.Corners(n), tile.Has(n, v)
	for k := range tile.Tiles(level) {
		o.first = append(o.first, k)
		if len(o.first) == 3 {
			break
		}
	}
	o.of, o.ofErr = tile.Of(v, level)
	o.cone, o.coneErr = tile.Cone(v, r, level)
	o.zone, o.zoneErrs = tile.Zone(normals, level)
	return o
}

// fault returns what is wrong with an outcome, whatever the other arguments are.
func (o outcome) fault(v vec, level int) string {
	direction, isLevel := sphere.Check(v) == api.OK, 0 <= level && level <= 12
	switch {
	case o.isTile != (o.checked == api.OK) || o.isTile != (len(o.corners) == 4) || !o.isTile && (o.level != 0 || o.isKid || o.has || len(o.corners)+len(o.kids) > 0):
		return "Level, Check, Corners or Has"
	case o.isKid != (o.level > 0) || !o.isKid && o.parent != 0 || o.has && !direction:
		return "Parent or Has"
	case (len(o.first) == 3) != isLevel || !isLevel && len(o.first) > 0:
		return "Tiles"
	case (o.ofErr == api.OK) != (direction && isLevel) || !sound(o.of, level, o.ofErr == api.OK):
		return "Of"
	case o.coneErr == api.OK && (!direction || !isLevel || len(o.cone) == 0) || !ordered(o.cone, level, o.coneErr):
		return "Cone"
	case o.zoneErrs == api.OK && !isLevel || !ordered(o.zone, level, o.zoneErrs):
		return "Zone"
	}
	return ""
}

// sound reports whether a tile has a level if there is one, and is 0 otherwise.
func sound(n api.Tile, level int, exists bool) bool {
	if !exists {
		return n == 0
	}
	return 8<<(2*level) <= n && n < 14<<(2*level)
}

// ordered reports whether tiles are in increasing order, of a level, and no more than there may be, or none beside an error.
func ordered(list tiles, level int, e api.Errno) bool {
	for i, n := range list {
		if !sound(n, level, e == api.OK) || i > 0 && n <= list[i-1] {
			return false
		}
	}
	return len(list) <= api.MaxTiles && (e == api.OK || len(list) == 0)
}

// Z1, Z2, Z3: no arguments make a function panic, results depend on the arguments alone, are valid, and are zero values beside an error.
func TestAnyArguments(t *testing.T) {
	figures := []int64{least, least + 1, -turn, -rim - 1, -rim, -13, -1, 0, 1, 8, 12, 13, 33, rim - 1, rim, rim + 1, 9 << 24, eighth, eighth + 1, most - 1, most}
	families := append(zones()[:20], make([]vec, 8), make([]vec, 9))
	wholes := directions()
	for i, x := range figures {
		for j, y := range figures {
			for k, z := range figures {
				v, normals := at(x, y, z), families[(i+2*j+k)%len(families)]
				if k%2 == 0 {
					v = wholes[(i+j+k)%len(wholes)]
				}
				if k%7 == 0 {
					normals = []vec{at(x, y, 5), at(z, x, y)}
				}
				level := int(x)
				if j%3 == 0 {
					level = k % 5
				}
				n, r := api.Tile(y), api.Arc(z)
				o := all(n, v, normals, r, level)
				if fault := o.fault(v, level); fault != "" {
					t.Fatalf("%d, %v, %v, %d, %d: %s is wrong: %v", n, v, normals, r, level, fault, o)
				}
				if k%5 == 0 && !reflect.DeepEqual(o, all(n, v, normals, r, level)) {
					t.Fatalf("%d, %v, %v, %d, %d: two results", n, v, normals, r, level)
				}
			}
		}
	}
}

// Z2: normals are left as they are, also behind their length.
func TestNormalsUnchanged(t *testing.T) {
	normals := append(diagonal(), at(7, 7, 7), at(8, 8, 8), at(9, 9, 9))
	before := slices.Clone(normals)
	for n := range len(normals) {
		if _, e := tile.Zone(normals[:n], 3); e != api.OK {
			t.Errorf("Zone of %d normals is %d", n, e)
		}
		if !slices.Equal(normals, before) {
			t.Fatalf("the normals are changed: %v", normals)
		}
	}
}

// Z2: results share no memory, also behind their length, with later ones.
func TestNewMemory(t *testing.T) {
	results := func() outcome { return all(34, at(3, -1, 2), diagonal(), twelfth, 3) }
	first, untouched := results(), results()
	for _, l := range []tiles{first.kids, first.cone, first.zone} {
		for i := range l[:cap(l)] {
			l[:cap(l)][i] = 99
		}
	}
	for i := range first.corners[:cap(first.corners)] {
		first.corners[:cap(first.corners)][i] = at(9, 9, 9)
	}
	if o := results(); !reflect.DeepEqual(o, untouched) {
		t.Errorf("the results are %v, not %v", o, untouched)
	}
}

// Z4: nil and empty lists of normals are the same.
func TestEmptyZone(t *testing.T) {
	for level := range 7 {
		a, e := tile.Zone(nil, level)
		b, f := tile.Zone([]vec{}, level)
		if !slices.Equal(a, b) || e != f {
			t.Errorf("level %d: the results differ", level)
		}
	}
}
