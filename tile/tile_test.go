package tile_test

import (
	"slices"
	"testing"

	"spyglass/api"
	"spyglass/tile"
)

// Chapter 11: the limit is that of the document.
func TestLimits(t *testing.T) {
	if tile.MaxNormals != 8 {
		t.Error("a limit is wrong")
	}
}

// P11.1: the first and last tiles of each level, and others between them.
func TestLevel(t *testing.T) {
	size := api.Tile(1)
	for level := range 13 {
		for _, n := range (tiles{8 * size, 8*size + size/3, 9 * size, 11*size - 1, 13*size + size/2, 14*size - 1}) {
			if l, ok := tile.Level(n); l != level || !ok {
				t.Errorf("Level(%d) is %d, %v", n, l, ok)
			}
			if e := tile.Check(n); e != api.OK {
				t.Errorf("Check(%d) is %d", n, e)
			}
		}
		for _, n := range (tiles{8*size - 1, 14 * size}) {
			if l, ok := tile.Level(n); l != 0 || ok {
				t.Errorf("Level(%d) is %d, %v", n, l, ok)
			}
		}
		size *= 4
	}
	for _, n := range strangers() {
		if l, ok := tile.Level(n); l != 0 || ok {
			t.Errorf("Level(%d) is %d, %v", n, l, ok)
		}
		if e := tile.Check(n); e != api.ErrRange {
			t.Errorf("Check(%d) is %d", n, e)
		}
	}
}

// P11.1: tiles with their parents and kids, down to the deepest level.
func TestFamilies(t *testing.T) {
	for level := range 5 {
		for _, n := range every(level) {
			kids := tile.Kids(n)
			if !slices.Equal(kids, tiles{4 * n, 4*n + 1, 4*n + 2, 4*n + 3}) {
				t.Fatalf("Kids(%d) is %v", n, kids)
			}
			for _, k := range kids {
				if p, ok := tile.Parent(k); p != n || !ok {
					t.Fatalf("Parent(%d) is %d, %v", k, p, ok)
				}
			}
		}
	}
	for _, n := range (tiles{8 << 22, 14<<22 - 1, 13<<22 + 77}) {
		if k := tile.Kids(n); !slices.Equal(k, tiles{4 * n, 4*n + 1, 4*n + 2, 4*n + 3}) {
			t.Errorf("Kids(%d) is %v", n, k)
		}
	}
	for _, n := range (tiles{8 << 24, 14<<24 - 1, 10<<24 + 5}) {
		if p, ok := tile.Parent(n); p != n/4 || !ok {
			t.Errorf("Parent(%d) is %d, %v", n, p, ok)
		}
		if k := tile.Kids(n); len(k) != 0 {
			t.Errorf("Kids(%d) is %v", n, k)
		}
	}
}

// P11.1: faces have no parents, and what is no tile has neither a parent nor kids.
func TestNoFamilies(t *testing.T) {
	for _, n := range append(every(0), strangers()...) {
		if p, ok := tile.Parent(n); p != 0 || ok {
			t.Errorf("Parent(%d) is %d, %v", n, p, ok)
		}
	}
	for _, n := range strangers() {
		if k := tile.Kids(n); len(k) != 0 {
			t.Errorf("Kids(%d) is %v", n, k)
		}
	}
}

// P11.1: all tiles of all levels, in increasing order.
func TestTiles(t *testing.T) {
	for level := range 13 {
		next := api.Tile(8) << (2 * level)
		for n := range tile.Tiles(level) {
			if n != next {
				t.Fatalf("level %d has %d, not %d", level, n, next)
			}
			next++
		}
		if next != 14<<(2*level) {
			t.Errorf("level %d ends before %d", level, next)
		}
	}
	for _, level := range noLevels() {
		for n := range tile.Tiles(level) {
			t.Fatalf("level %d has %d", level, n)
		}
	}
}

// P11.1, Z1: the iterators can be stopped early, and used again, also while they are used.
func TestTilesAgain(t *testing.T) {
	faces := tile.Tiles(0)
	var pairs []api.Tile
	for a := range faces {
		for b := range faces {
			if b > a {
				break
			}
			pairs = append(pairs, 100*a+b)
		}
		if a == 10 {
			break
		}
	}
	if !slices.Equal(pairs, tiles{808, 908, 909, 1008, 1009, 1010}) {
		t.Errorf("nested loops: %v", pairs)
	}
	if l := slices.Collect(faces); !slices.Equal(l, every(0)) {
		t.Errorf("used again: %v", l)
	}
}
