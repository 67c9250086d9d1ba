package tile_test

import (
	"slices"
	"testing"

	"spyglass/api"
	"spyglass/sphere"
	"spyglass/tile"
	"spyglass/trig"
)

// P11.4: known cones: of the angle 0, in a side and at corners, such that touch a side or a corner, and such that nearly do.
func TestCone(t *testing.T) {
	if trig.Sin(twelfth) != api.One/2 || trig.Sin(twelfth-1) >= api.One/2 {
		t.Fatal("the angle of the touching cones is wrong")
	}
	for _, c := range []struct {
		c     vec
		r     api.Arc
		level int
		want  tiles
	}{
		{at(1, 0, 0), 0, 0, tiles{8}}, {at(0, 0, -7), 0, 0, tiles{13}}, {at(1, 0, 0), 0, 1, tiles{32, 33, 34, 35}}, {at(0, -5, 0), 0, 1, tiles{44, 45, 46, 47}}, {at(3, -1, 2), 0, 1, tiles{34}}, {at(3, -1, 0), 0, 1, tiles{32, 34}}, {at(1, 1, 0), 0, 0, tiles{8, 10}}, {at(-1, 0, 1), 0, 0, tiles{9, 12}}, {at(-2, -2, -1), 0, 0, tiles{9, 11}}, {at(1, 1, 1), 0, 0, tiles{8, 10, 12}}, {at(-1, 1, -1), 0, 0, tiles{9, 10, 13}},
		{at(1, 1, 1), 0, 12, tiles{9<<24 - 1, 11<<24 - 1, 13<<24 - 1}}, {at(1, 0, 0), 0, 12, tiles{8<<24 + 1<<22 - 1, 8<<24 + 1<<22 + (1<<22-1)/3*2, 8<<24 + 2<<22 + (1<<22-1)/3, 8<<24 + 3<<22}},
		// Just beside a corner and a side.
		{at(rim, 1, 1), 0, 12, tiles{8<<24 + 3<<22}}, {at(rim, 1, 0), 0, 1, tiles{33, 35}}, {at(rim, rim-1, 0), 0, 0, tiles{8}}, {at(rim, rim-1, 0), 1000, 0, tiles{8, 10}}, {at(rim, 1, 1), 600, 1, tiles{35}}, {at(rim, 1, 1), 652, 1, tiles{33, 34, 35}}, {at(rim, 1, 1), 1000, 1, tiles{32, 33, 34, 35}},
		// At an eighth of a turn, the sine is a little greater than the root of 1/2.
		{at(1, 0, 0), eighth, 0, tiles{8, 10, 11, 12, 13}}, {at(1, 0, 0), eighth - 1, 0, tiles{8}}, {at(0, 0, -1), eighth, 0, tiles{8, 9, 10, 11, 13}}, {at(1, 1, 1), eighth, 0, tiles{8, 10, 12}}, {at(1, 1, 0), eighth, 0, tiles{8, 10, 12, 13}},
		// Y touches a side that is an angle with the sine 1/2 away: (4 - 1)^2 / (2 * 18) is 1/4.
		{at(4, 1, 1), twelfth, 0, tiles{8, 10, 12}}, {at(4, 1, 1), twelfth - 1, 0, tiles{8}}, {at(-4, 1, -1), twelfth, 0, tiles{9, 10, 13}}, {at(-4, 1, -1), twelfth - 1, 0, tiles{9}}, {at(1, 1, -4), twelfth, 0, tiles{8, 10, 13}},
		{at(4, 1, 1), twelfth, 2, tiles{131, 134, 135, 137, 139, 140, 141, 142, 143, 174, 205}}, {at(4, 1, 1), twelfth - 1, 2, tiles{131, 134, 135, 137, 139, 140, 141, 142, 143}},
		// The corner (1, 1, 0) of 42 is an angle with the squared cosine 3/4 away: 81 / (2 * 54).
		{at(7, 2, 1), twelfth, 1, tiles{32, 33, 34, 35, 42, 43}}, {at(7, 2, 1), twelfth - 1, 1, tiles{32, 33, 34, 35, 43}}, {at(-7, -2, 1), twelfth, 1, tiles{36, 37, 38, 39, 44, 45}}, {at(-7, -2, 1), twelfth - 1, 1, tiles{36, 37, 38, 39, 45}}, {at(2, -7, 1), twelfth, 1, tiles{32, 34, 44, 45, 46, 47}}, {at(2, -7, 1), twelfth - 1, 1, tiles{34, 44, 45, 46, 47}},
	} {
		if l, e := tile.Cone(c.c, c.r, c.level); !slices.Equal(l, c.want) || e != api.OK {
			t.Errorf("Cone(%v, %d, %d) is %v, %d, not %v", c.c, c.r, c.level, l, e, c.want)
		}
	}
}

// P11.4: the errors, and their order.
func TestConeErrors(t *testing.T) {
	angles := []api.Arc{-1, eighth + 1, quarter, turn, -turn, most, least}
	for _, f := range faults() {
		for _, r := range append(angles, 0, eighth) {
			for _, level := range append(noLevels(), 0, 9) {
				if l, e := tile.Cone(f.v, r, level); len(l) != 0 || e != f.e {
					t.Errorf("Cone(%v, %d, %d) is %v, %d", f.v, r, level, l, e)
				}
			}
		}
	}
	for _, r := range angles {
		for _, level := range append(noLevels(), 0, 12) {
			if l, e := tile.Cone(at(1, 0, 0), r, level); len(l) != 0 || e != api.ErrRange {
				t.Errorf("Cone of %d, %d is %v, %d", r, level, l, e)
			}
		}
	}
	for _, level := range noLevels() {
		for _, r := range []api.Arc{0, eighth} {
			if l, e := tile.Cone(at(1, 0, 0), r, level); len(l) != 0 || e != api.ErrRange {
				t.Errorf("Cone of %d, %d is %v, %d", r, level, l, e)
			}
		}
	}
	for level := 7; level <= 12; level++ {
		if l, e := tile.Cone(at(1, 0, 0), eighth, level); len(l) != 0 || e != api.ErrLarge {
			t.Errorf("Cone of level %d has %d tiles, %d", level, len(l), e)
		}
	}
}

// P11.4: as many tiles as there may be, and one too many.
func TestConeLimit(t *testing.T) {
	const r = 8496882
	c := at(3, 1, 2)
	if l, e := tile.Cone(c, r, 12); len(l) != api.MaxTiles || e != api.OK || !slices.Equal(l, covered(12, discOf(c, r).meets)) {
		t.Errorf("at the limit: %d tiles, %d", len(l), e)
	}
	if n := len(covered(12, discOf(c, r+1).meets)); n != api.MaxTiles+1 {
		t.Fatalf("beyond the limit there are %d tiles", n)
	}
	if l, e := tile.Cone(c, r+1, 12); len(l) != 0 || e != api.ErrLarge {
		t.Errorf("beyond the limit: %d tiles, %d", len(l), e)
	}
}

// angles returns angles of cones of every sort; state chooses some.
func angles(state uint64) []api.Arc {
	list := []api.Arc{0, 1, 1000, turn / 64, twelfth - 1, twelfth, eighth - 1, eighth}
	for i := range uint64(4) {
		list = append(list, api.Arc(chance(state*4+i, eighth)))
	}
	return list
}

// checkCone compares a cone with the tiles of a list that it meets.
func checkCone(t *testing.T, c vec, r api.Arc, level int, want tiles) {
	t.Helper()
	l, e := tile.Cone(c, r, level)
	if len(want) > api.MaxTiles && (len(l) != 0 || e != api.ErrLarge) {
		t.Fatalf("Cone(%v, %d, %d) has %d tiles, %d, of %d", c, r, level, len(l), e, len(want))
	}
	if len(want) <= api.MaxTiles && (!slices.Equal(l, want) || e != api.OK) {
		t.Fatalf("Cone(%v, %d, %d) is %v, %d, not %v", c, r, level, l, e, want)
	}
}

// P11.4: of all the tiles of the upper levels, those of the cone are the ones that the disc meets.
func TestConeByRule(t *testing.T) {
	for level := range 4 {
		for i, c := range directions() {
			for j, r := range angles(uint64(i)) {
				if level < 3 || (i+j)%5 == 0 {
					checkCone(t, c, r, level, chosen(every(level), discOf(c, r).meets))
				}
			}
		}
	}
}

// P11.4: cones that touch tiles exactly, and all but.
func TestConeTouch(t *testing.T) {
	for _, v := range []vec{at(4, 1, 1), at(7, 2, 1), at(7, 1, 0), at(2, 1, 1), at(1, 1, 0)} {
		for i, c := range images(v) {
			for level := range 3 {
				if level == 2 && i%6 != 0 {
					continue
				}
				for _, r := range []api.Arc{twelfth - 1, twelfth} {
					checkCone(t, c, r, level, chosen(every(level), discOf(c, r).meets))
				}
			}
		}
	}
}

// P11.4: cones of all levels.
func TestConeBelow(t *testing.T) {
	for i, c := range directions() {
		for level := 3; level <= 12; level++ {
			r := api.Arc(chance(uint64(20*i+level), turn>>level))
			checkCone(t, c, r, level, covered(level, discOf(c, r).meets))
			if i%4 == 0 {
				checkCone(t, c, 0, level, covered(level, discOf(c, 0).meets))
			}
		}
	}
}

// P11.4: the least angle at which a cone meets a tile.
func TestConeEdge(t *testing.T) {
	for i := range uint64(300) {
		level := int(i % 7)
		c, n := drawn(i+3000, 1<<(i%20+1)), 8<<(2*level)+api.Tile(chance(i, 6<<(2*level)))
		lo, hi := api.Arc(-1), api.Arc(eighth)
		if !discOf(c, hi).meets(n) {
			continue
		}
		for hi-lo > 1 {
			if middle := (lo + hi) / 2; discOf(c, middle).meets(n) {
				hi = middle
			} else {
				lo = middle
			}
		}
		if l, e := tile.Cone(c, hi, level); e == api.OK && !slices.Contains(l, n) {
			t.Fatalf("Cone(%v, %d, %d) is without %d", c, hi, level, n)
		}
		if l, _ := tile.Cone(c, lo, level); slices.Contains(l, n) {
			t.Fatalf("Cone(%v, %d, %d) has %d", c, lo, level, n)
		}
	}
}

// P11.6: a cone has the tiles of all directions that are within its angle.
func TestConeHasWithin(t *testing.T) {
	found := 0
	for i := range uint64(1000) {
		level, size := int(i%13), int64(rim/4)>>(i%20)
		c := drawn(i, rim)
		v := at(c.X*3/4+around(i+9, size), c.Y*3/4+around(i+99, size), c.Z*3/4+around(i+999, size))
		r, e := sphere.Separation(c, v)
		// Cones that are much wider than a tile have many.
		if e != api.OK || r > eighth || r > turn>>level {
			continue
		}
		found++
		l, e := tile.Cone(c, r, level)
		if n, _ := tile.Of(v, level); e != api.OK || !slices.Contains(l, n) {
			t.Fatalf("Cone(%v, %d, %d) is %d, without %d of %v", c, r, level, e, n, v)
		}
	}
	if found < 500 {
		t.Errorf("only %d cones", found)
	}
}

// P11.6: each tile of a cone lies in one of the level above, and one of its kids is in that of the level below.
func TestConeNested(t *testing.T) {
	for i, c := range directions() {
		for _, r := range angles(uint64(i)) {
			above, _ := tile.Cone(c, r, 0)
			for level := 1; level <= 12 && len(above) < 200; level++ {
				below, e := tile.Cone(c, r, level)
				if e != api.OK || !nested(above, below) {
					t.Fatalf("Cone(%v, %d, %d) is %v, %d, below %v", c, r, level, below, e, above)
				}
				above = below
			}
		}
	}
}

// P11.6: a greater angle gives a cone that has all tiles of the smaller one.
func TestConeGrows(t *testing.T) {
	for i, c := range directions() {
		for level := range 5 {
			list := append(angles(uint64(i)), angles(uint64(i+100))...)
			slices.Sort(list)
			var last tiles
			for _, r := range list {
				l, e := tile.Cone(c, r, level)
				for _, n := range last {
					if _, ok := slices.BinarySearch(l, n); !ok {
						t.Fatalf("Cone(%v, %d, %d) is %d, without %d", c, r, level, e, n)
					}
				}
				last = l
			}
		}
	}
}
