package tests

import (
	"slices"
	"testing"

	"loop.example/sundials/impl"
)

func TestP24WhoIsHigherIsNeverDarker(t *testing.T) {
	eachLight(t, func(c impl.City, dir, fall int) {
		shade := impl.ShadeOf(c, dir, fall)
		for cell, tall := range c.Tall {
			dark := impl.Dark(c, cell, dir, fall)
			if dark != isDark(c, cell, dir, fall) {
				t.Error("dark", c, cell, dir, fall, dark)
			}
			if dark != (tall < shade[cell]) {
				t.Error("lower than the shade", c, cell, dir, fall, shade)
			}
			if !dark && tall < 20 && impl.Dark(withTall(c, cell, tall+1), cell, dir, fall) {
				t.Error("higher", c, cell, dir, fall)
			}
			if !dark && fall < 5 && impl.Dark(c, cell, dir, fall+1) {
				t.Error("steeper", c, cell, dir, fall)
			}
		}
	})
}

func TestP24KnownCells(t *testing.T) {
	c := city(3, 0, 5, 2, 1, 1, 1, 0, 0, 4)
	for _, scene := range []struct {
		cell, dir, fall int
		want            bool
	}{
		{0, impl.DirEast, 2, true}, {0, impl.DirEast, 4, true}, {0, impl.DirEast, 5, false}, {1, impl.DirEast, 0, false}, {6, impl.DirEast, 1, true}, {6, impl.DirEast, 2, false},
		{2, impl.DirWest, 2, true}, {2, impl.DirWest, 3, false}, {7, impl.DirSouth, 2, true}, {7, impl.DirSouth, 3, false}, {5, impl.DirNorth, 2, true}, {5, impl.DirNorth, 3, false},
		// As high as the light is enough; the cells at the edge towards the sun are always lit.
		{3, impl.DirEast, 0, false}, {4, impl.DirWest, 0, false}, {2, impl.DirEast, 0, false}, {6, impl.DirNorth, 0, false}, {0, impl.DirWest, 0, false}, {0, impl.DirSouth, 0, false},
		// The next cell in the row of numbers is not beside the last one of a row.
		{5, impl.DirEast, 0, false}, {3, impl.DirWest, 0, false},
	} {
		if got := impl.Dark(c, scene.cell, scene.dir, scene.fall); got != scene.want {
			t.Error(scene, got)
		}
	}
}

func TestP24NothingIsDarkInOtherCities(t *testing.T) {
	eachOtherLight(func(c impl.City, dir, fall int) {
		for cell := -1; cell <= 36; cell++ {
			if impl.Dark(c, cell, dir, fall) {
				t.Error("other light", c, cell, dir, fall)
			}
		}
	})
	for _, c := range []impl.City{city(1, 0), city(2, 0, 20, 20, 0), withTall(flatCity(6, 0), 14, 20)} {
		for _, cell := range otherFrom(0, c.Wide*c.Wide-1) {
			for dir := range 4 {
				if impl.Dark(c, cell, dir, 0) {
					t.Error("other cell", c, cell, dir)
				}
			}
		}
	}
}

func TestP25TheLightFallsFromCellToCell(t *testing.T) {
	eachLight(t, func(c impl.City, dir, fall int) {
		shade := impl.ShadeOf(c, dir, fall)
		if len(shade) != len(c.Tall) {
			t.Fatal("cells", c, shade)
		}
		for cell, light := range shade {
			want := 0
			if next := behind(c.Wide, cell, dir, 1); next >= 0 {
				want = max(shade[next]-fall, c.Tall[next]-fall, 0)
			}
			most := 0
			for many := 1; many < c.Wide; many++ {
				if other := behind(c.Wide, cell, dir, many); other >= 0 {
					most = max(most, c.Tall[other]-many*fall)
				}
			}
			if light != want || light != most {
				t.Error("light", c, dir, fall, cell, light, want, most)
			}
		}
	})
}

func TestP25KnownLight(t *testing.T) {
	c := city(3, 0, 5, 2, 1, 1, 1, 0, 0, 4)
	for _, scene := range []struct {
		dir, fall int
		want      []int
	}{
		{impl.DirEast, 1, []int{4, 1, 0, 0, 0, 0, 2, 3, 0}}, {impl.DirEast, 0, []int{5, 2, 0, 1, 1, 0, 4, 4, 0}}, {impl.DirEast, 5, make([]int, 9)},
		{impl.DirWest, 0, []int{0, 0, 5, 0, 1, 1, 0, 0, 0}}, {impl.DirNorth, 2, []int{0, 0, 0, 0, 0, 2, 0, 0, 0}}, {impl.DirSouth, 1, []int{0, 0, 0, 0, 4, 1, 0, 3, 0}},
	} {
		if got := impl.ShadeOf(c, scene.dir, scene.fall); !slices.Equal(got, scene.want) {
			t.Error(scene, got)
		}
	}
	if got := impl.ShadeOf(city(1, 20), impl.DirSouth, 0); !slices.Equal(got, []int{0}) {
		t.Error("one cell", got)
	}
	eachOtherLight(func(c impl.City, dir, fall int) {
		if got := impl.ShadeOf(c, dir, fall); len(got) != 0 {
			t.Error("other light", c, dir, fall, got)
		}
	})
}

// staysLit reports whether every other cell that is lit in a city is lit when a cell has another height.
func staysLit(c impl.City, cell, tall, dir, fall int) bool {
	changed := withTall(c, cell, tall)
	for other := range c.Tall {
		if other != cell && !isDark(c, other, dir, fall) && isDark(changed, other, dir, fall) {
			return false
		}
	}
	return true
}

func TestP26SoHighItMayBeBuilt(t *testing.T) {
	eachLight(t, func(c impl.City, dir, fall int) {
		for cell, tall := range c.Tall {
			most := impl.KeepLit(c, cell, dir, fall)
			if most < tall || most > 20 {
				t.Error("at least as high as now", c, cell, dir, fall, most)
			}
			for height := 0; height <= 20; height++ {
				if staysLit(c, cell, height, dir, fall) != (height <= most) {
					t.Error("stays lit", c, cell, dir, fall, most, height)
				}
			}
		}
	})
}

func TestP26KnownHeights(t *testing.T) {
	c := city(3, 0, 5, 2, 1, 1, 1, 0, 0, 4)
	for _, scene := range []struct{ cell, dir, fall, want int }{
		{2, impl.DirEast, 1, 6}, {0, impl.DirEast, 1, 20}, {2, impl.DirEast, 0, 5}, {2, impl.DirEast, 5, 10}, {5, impl.DirEast, 0, 1}, {8, impl.DirEast, 1, 20},
		{0, impl.DirWest, 0, 5}, {0, impl.DirWest, 3, 8}, {2, impl.DirWest, 0, 20}, {4, impl.DirSouth, 0, 20}, {3, impl.DirNorth, 0, 20}, {6, impl.DirNorth, 0, 1},
	} {
		if got := impl.KeepLit(c, scene.cell, scene.dir, scene.fall); got != scene.want {
			t.Error(scene, got)
		}
	}
	if got := impl.KeepLit(flatCity(2, 0), 1, impl.DirSouth, 0); got != 0 {
		t.Error("nothing", got)
	}
	if got := impl.KeepLit(city(1, 7), 0, impl.DirWest, 0); got != 20 {
		t.Error("one cell", got)
	}
}

func TestP26OtherCellsCannotBeBuilt(t *testing.T) {
	eachOtherLight(func(c impl.City, dir, fall int) {
		for cell := -1; cell <= 36; cell++ {
			if got := impl.KeepLit(c, cell, dir, fall); got != -1 {
				t.Error("other light", c, cell, dir, fall, got)
			}
		}
	})
	for _, c := range []impl.City{city(1, 0), city(2, 0, 20, 20, 0), flatCity(6, 4)} {
		for _, cell := range otherFrom(0, c.Wide*c.Wide-1) {
			for dir := range 4 {
				if got := impl.KeepLit(c, cell, dir, 1); got != -1 {
					t.Error("other cell", c, cell, dir, got)
				}
			}
		}
	}
}

func TestP111TheHighestCellIsLit(t *testing.T) {
	eachLight(t, func(c impl.City, dir, fall int) {
		lit := impl.LitCells(c, dir, fall)
		if !slices.Equal(lit, litIn(c, dir, fall)) {
			t.Error("lit", c, dir, fall, lit)
		}
		highest := slices.Max(c.Tall)
		for cell, tall := range c.Tall {
			if tall == highest && !slices.Contains(lit, cell) {
				t.Error("highest", c, dir, fall, cell, lit)
			}
		}
		if turned := impl.LitCells(impl.CityTurn(c), (dir+1)%4, fall); len(turned) != len(lit) {
			t.Error("turned", c, dir, fall, lit, turned)
		}
	})
}

func TestP111KnownLitCells(t *testing.T) {
	c := city(3, 0, 5, 2, 1, 1, 1, 0, 0, 4)
	for _, scene := range []struct {
		dir, fall int
		want      []int
	}{
		{impl.DirEast, 1, []int{1, 2, 3, 4, 5, 8}}, {impl.DirEast, 5, []int{0, 1, 2, 3, 4, 5, 6, 7, 8}}, {impl.DirWest, 0, []int{0, 1, 3, 4, 5, 6, 7, 8}}, {impl.DirSouth, 0, []int{0, 1, 2, 3, 8}},
	} {
		if got := impl.LitCells(c, scene.dir, scene.fall); !slices.Equal(got, scene.want) {
			t.Error(scene, got)
		}
	}
	eachOtherLight(func(c impl.City, dir, fall int) {
		if got := impl.LitCells(c, dir, fall); len(got) != 0 {
			t.Error("other light", c, dir, fall, got)
		}
	})
}
