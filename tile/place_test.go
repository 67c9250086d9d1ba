package tile_test

import (
	"slices"
	"testing"

	"spyglass/api"
	"spyglass/tile"
)

// P11.2: known tiles: of all faces, at equal components, on the sides of columns and rows, and at the greatest column and row.
func TestOf(t *testing.T) {
	for _, c := range []struct {
		v     vec
		level int
		want  api.Tile
	}{
		{at(3, -1, 2), 1, 34}, {at(5, 0, 0), 0, 8}, {at(-5, 4, 4), 0, 9}, {at(4, 5, -4), 0, 10}, {at(4, -5, 4), 0, 11}, {at(0, 0, 1), 0, 12}, {at(rim-1, 1-rim, -rim), 0, 13},
		// The first axis counts if components are equal.
		{at(1, 1, 0), 0, 8}, {at(1, -1, 1), 0, 8}, {at(-1, 1, 1), 0, 9}, {at(-1, -1, 0), 0, 9}, {at(0, 1, 1), 0, 10}, {at(0, 1, -1), 0, 10}, {at(1, -2, 2), 0, 11}, {at(-1, -2, -2), 0, 11}, {at(2, 0, 2), 0, 8}, {at(-2, 1, -2), 0, 9},
		// Columns and rows are those of Y and Z for the faces of X, of Z and X for those of Y, of X and Y for those of Z.
		{at(9, -1, -1), 1, 32}, {at(9, 1, -1), 1, 33}, {at(9, -1, 1), 1, 34}, {at(9, 1, 1), 1, 35}, {at(-9, -1, -1), 1, 36}, {at(-9, 1, -1), 1, 37}, {at(-9, -1, 1), 1, 38}, {at(-9, 1, 1), 1, 39},
		{at(-1, 9, -1), 1, 40}, {at(-1, 9, 1), 1, 41}, {at(1, 9, -1), 1, 42}, {at(1, 9, 1), 1, 43}, {at(-1, -9, -1), 1, 44}, {at(-1, -9, 1), 1, 45}, {at(1, -9, -1), 1, 46}, {at(1, -9, 1), 1, 47},
		{at(-1, -1, 9), 1, 48}, {at(1, -1, 9), 1, 49}, {at(-1, 1, 9), 1, 50}, {at(1, 1, 9), 1, 51}, {at(-1, -1, -9), 1, 52}, {at(1, -1, -9), 1, 53}, {at(-1, 1, -9), 1, 54}, {at(1, 1, -9), 1, 55},
		// Between two columns or rows it is the next one; at the end, the last one.
		{at(1, 0, 0), 1, 35}, {at(1, 0, 0), 2, 140}, {at(1, 0, 0), 12, 8<<24 + 3<<22}, {at(2, 1, -1), 2, 135}, {at(1, 1, 1), 1, 35}, {at(1, 1, -1), 2, 133}, {at(1, 1, 1), 12, 9<<24 - 1}, {at(0, 0, -1), 2, 220}, {at(-1, -1, -1), 12, 9 << 24},
		// (1 - 3/4) / 2 of 4 rows; just below half of the columns; just below all of the columns.
		{at(4, 1, -3), 2, 132}, {at(-4, 1, -3), 2, 148}, {at(rim, -1, 0), 12, 8<<24 + 2<<22 + (1<<22-1)/3}, {at(rim-1, 0, rim), 1, 51}, {at(rim, rim-1, -rim), 12, 8<<24 + (1<<24-1)/3},
	} {
		if n, e := tile.Of(c.v, c.level); n != c.want || e != api.OK {
			t.Errorf("Of(%v, %d) is %d, %d, not %d", c.v, c.level, n, e, c.want)
		}
	}
}

// place returns where the tile of a direction must lie by P11.2.
func place(v vec, level int) spot {
	s := spot{level: level, face: 8}
	var m int64
	for i, c := range []int64{v.X, v.Y, v.Z} {
		if max(c, -c) > m {
			m = max(c, -c)
			s.face = 8 + 2*i
			if c < 0 {
				s.face++
			}
		}
	}
	p, n := s.parts(v), int64(1)<<level
	s.column, s.row = min((p[1]+m)*n/(2*m), n-1), min((p[2]+m)*n/(2*m), n-1)
	return s
}

// P11.2: the tiles are those of the rule, have the direction, and lie one in the other.
func TestOfByRule(t *testing.T) {
	list := append(directions(), images(at(1, 2, 3))...)
	list = append(append(list, images(at(rim, rim-1, 1))...), images(at(2, 2, 1))...)
	for i := range uint64(300) {
		list = append(list, drawn(i+5000, 1<<(i%20+1)))
	}
	for _, v := range list {
		for level := range 13 {
			n, e := tile.Of(v, level)
			if e != api.OK || spotOf(n) != place(v, level) {
				t.Fatalf("Of(%v, %d) is %d, %d", v, level, n, e)
			}
			if !tile.Has(n, v) {
				t.Fatalf("%d is without %v", n, v)
			}
			if below, _ := tile.Of(v, level+1); level < 12 && !slices.Contains(tile.Kids(n), below) {
				t.Fatalf("Of(%v) is %d, and then %d", v, n, below)
			}
		}
	}
}

// P11.2: the errors, and their order.
func TestOfErrors(t *testing.T) {
	for _, f := range faults() {
		for _, level := range append(noLevels(), 0, 12) {
			if n, e := tile.Of(f.v, level); n != 0 || e != f.e {
				t.Errorf("Of(%v, %d) is %d, %d", f.v, level, n, e)
			}
		}
	}
	for _, level := range noLevels() {
		if n, e := tile.Of(at(1, 2, 3), level); n != 0 || e != api.ErrRange {
			t.Errorf("Of level %d is %d, %d", level, n, e)
		}
	}
}

// P11.3: known corners of the faces and of smaller tiles.
func TestCorners(t *testing.T) {
	for n, want := range map[api.Tile][]vec{
		8:  {at(1, -1, -1), at(1, 1, -1), at(1, -1, 1), at(1, 1, 1)},
		9:  {at(-1, -1, -1), at(-1, 1, -1), at(-1, -1, 1), at(-1, 1, 1)},
		10: {at(-1, 1, -1), at(-1, 1, 1), at(1, 1, -1), at(1, 1, 1)},
		11: {at(-1, -1, -1), at(-1, -1, 1), at(1, -1, -1), at(1, -1, 1)},
		12: {at(-1, -1, 1), at(1, -1, 1), at(-1, 1, 1), at(1, 1, 1)},
		13: {at(-1, -1, -1), at(1, -1, -1), at(-1, 1, -1), at(1, 1, -1)},
		34: {at(2, -2, 0), at(2, 0, 0), at(2, -2, 2), at(2, 0, 2)},
		// Column 2, row 1 of 4.
		182: {at(-2, -4, 0), at(-2, -4, 2), at(0, -4, 0), at(0, -4, 2)},
		// The last column, the first row.
		12<<24 + (1<<24-1)/3: {at(4094, -4096, 4096), at(4096, -4096, 4096), at(4094, -4094, 4096), at(4096, -4094, 4096)},
	} {
		if l := tile.Corners(n); !slices.Equal(l, want) {
			t.Errorf("Corners(%d) is %v, not %v", n, l, want)
		}
	}
	for _, n := range strangers() {
		if l := tile.Corners(n); len(l) != 0 {
			t.Errorf("Corners(%d) is %v", n, l)
		}
	}
}

// samples returns tiles of all levels: all of the upper ones, and some of the others.
func samples() tiles {
	var list tiles
	for level := range 13 {
		if level < 4 {
			list = append(list, every(level)...)
		}
		for i := range uint64(40) {
			list = append(list, 8<<(2*level)+api.Tile(chance(i+uint64(1000*level), 6<<(2*level))))
		}
	}
	return list
}

// P11.3: the corners are those of the rule, and the tile has them.
func TestCornersByRule(t *testing.T) {
	for _, n := range samples() {
		s := spotOf(n)
		want := []vec{s.corner(s.column, s.row), s.corner(s.column+1, s.row), s.corner(s.column, s.row+1), s.corner(s.column+1, s.row+1)}
		if l := tile.Corners(n); !slices.Equal(l, want) {
			t.Fatalf("Corners(%d) is %v, not %v", n, l, want)
		}
		for _, v := range want {
			if !tile.Has(n, v) || tile.Has(n, opposite(v)) {
				t.Fatalf("%d is without the corner %v, or has its opposite", n, v)
			}
		}
	}
}

// P11.3: known answers: sides and corners, other faces, what is no tile, and what is no direction.
func TestHas(t *testing.T) {
	for _, c := range []struct {
		n    api.Tile
		v    vec
		want bool
	}{
		{8, at(1, 0, 0), true}, {8, at(1, 1, 1), true}, {8, at(1, -1, 1), true}, {8, at(rim-1, rim, 0), false}, {8, at(rim, rim, 0), true}, {8, at(rim-1, 0, -rim), false}, {8, at(-1, 0, 0), false}, {8, at(-1, 1, 1), false}, {8, at(0, 1, 0), false}, {8, at(0, 0, -1), false}, {9, at(-1, 1, 0), true}, {9, at(1, 0, 0), false}, {9, at(-5, 6, 0), false},
		{10, at(1, 1, 0), true}, {10, at(0, 1, 1), true}, {10, at(1, 1, 2), false}, {11, at(1, -2, 2), true}, {11, at(1, 2, 2), false}, {12, at(1, 1, 1), true}, {12, at(1, 2, 1), false}, {13, at(1, 1, -1), true}, {13, at(1, 1, 1), false},
		// From -1 to 0 along Y, from 0 to 1 along Z.
		{34, at(3, -1, 2), true}, {34, at(1, 0, 0), true}, {34, at(1, -1, 1), true}, {34, at(3, 1, 2), false}, {34, at(3, -1, -2), false}, {34, at(rim, 1, 0), false}, {34, at(rim, 0, -1), false}, {34, at(rim, 0, 1), true}, {34, at(rim, -1, 0), true},
		// The last column and row of the deepest level.
		{9<<24 - 1, at(1, 1, 1), true}, {9<<24 - 1, at(2048, 2047, 2048), true}, {9<<24 - 1, at(rim, rim-513, rim), false}, {9<<24 - 1, at(rim, rim-512, rim), true}, {9<<24 - 1, at(rim, rim, rim-513), false}, {9<<24 - 1, at(rim, rim-512, rim-512), true}, {9<<24 - 1, at(-1, -1, -1), false},
	} {
		if tile.Has(c.n, c.v) != c.want {
			t.Errorf("Has(%d, %v) is %v", c.n, c.v, !c.want)
		}
	}
	for _, n := range strangers() {
		for _, v := range directions() {
			if tile.Has(n, v) {
				t.Errorf("Has(%d, %v)", n, v)
			}
		}
	}
	for _, n := range samples() {
		for _, f := range faults() {
			if tile.Has(n, f.v) {
				t.Errorf("Has(%d, %v)", n, f.v)
			}
		}
	}
	if tile.Has(10, at(0, rim+1, 0)) || !tile.Has(10, at(0, rim, 0)) {
		t.Error("Has beyond or at the limit of directions")
	}
}

// P11.3: tiles have the directions that the rule gives them: small ones, and others near their corners and sides.
func TestHasByRule(t *testing.T) {
	var small []vec
	for i := range int64(7 * 7 * 7) {
		if v := at(i%7-3, i/7%7-3, i/49-3); v != (vec{}) {
			small = append(small, v)
		}
	}
	for level := range 4 {
		for _, n := range every(level) {
			for _, v := range append(small, directions()...) {
				if tile.Has(n, v) != spotOf(n).lies(v) {
					t.Fatalf("Has(%d, %v) is %v", n, v, tile.Has(n, v))
				}
			}
		}
	}
	for i, n := range samples() {
		for j, corner := range spotOf(n).round() {
			// Weights of the next corner lead along the side; the rest leads away from it by as little as there is.
			next := spotOf(n).round()[(j+1)%4]
			for k := range int64(16) {
				a, b := chance(uint64(i*64+j*16)+uint64(k), 120)+1, chance(uint64(i*64+j*16)+uint64(k)+9, 120)
				v := at(a*corner.X+b*next.X+k%3-1, a*corner.Y+b*next.Y+k/3%3-1, a*corner.Z+b*next.Z)
				if tile.Has(n, v) != spotOf(n).lies(v) {
					t.Fatalf("Has(%d, %v) is %v", n, v, tile.Has(n, v))
				}
			}
		}
	}
}
