package tests

import (
	"math"
	"slices"
	"testing"

	"loop.example/sundials/impl"
)

func TestP109CitiesCanBeFlat(t *testing.T) {
	for _, c := range someCities() {
		if !impl.CityValid(c) {
			t.Error("valid", c)
		}
		if !impl.CityValid(flatCity(c.Wide, 0)) || !impl.CityValid(flatCity(c.Wide, 20)) {
			t.Error("flat", c)
		}
		less, more := city(c.Wide, c.Tall[:len(c.Tall)-1]...), city(c.Wide, append(slices.Clone(c.Tall), 0)...)
		if impl.CityValid(less) || impl.CityValid(more) {
			t.Error("a cell less or more", c)
		}
		for _, tall := range []int{-1, 21} {
			for cell := range c.Tall {
				if impl.CityValid(withTall(c, cell, tall)) {
					t.Error("height", c, cell, tall)
				}
			}
		}
	}
	for wide := -8; wide <= 8; wide++ {
		for cells := range 70 {
			want := wide >= 1 && wide <= 6 && cells == wide*wide
			if impl.CityValid(city(wide, make([]int, cells)...)) != want {
				t.Error("wide", wide, cells)
			}
		}
	}
	for _, c := range otherCities() {
		if impl.CityValid(c) {
			t.Error("other city", c)
		}
	}
}

func TestP110WhoIsBesideMeHasMeBeside(t *testing.T) {
	opposite := [4]int{impl.DirWest, impl.DirSouth, impl.DirEast, impl.DirNorth}
	for _, c := range someCities() {
		behindEdge := 0
		for cell := range c.Tall {
			for dir := range 4 {
				next := impl.NextCell(c, cell, dir)
				if next != behind(c.Wide, cell, dir, 1) {
					t.Error("beside", c, cell, dir, next)
				}
				if next >= 0 && impl.NextCell(c, next, opposite[dir]) != cell {
					t.Error("back", c, cell, dir, next)
				}
				if next < 0 {
					behindEdge++
				}
			}
		}
		if behindEdge != 4*c.Wide {
			t.Error("behind the edge", c, behindEdge)
		}
	}
	c := flatCity(3, 2)
	for dir, want := range [4][9]int{
		{1, 2, -1, 4, 5, -1, 7, 8, -1}, {3, 4, 5, 6, 7, 8, -1, -1, -1}, {-1, 0, 1, -1, 3, 4, -1, 6, 7}, {-1, -1, -1, 0, 1, 2, 3, 4, 5},
	} {
		for cell, next := range want {
			if got := impl.NextCell(c, cell, dir); got != next {
				t.Error("known cell", dir, cell, got)
			}
		}
	}
}

func TestP110OtherCellsHaveNoneBeside(t *testing.T) {
	for _, c := range otherCities() {
		for cell := -1; cell <= 37; cell++ {
			for dir := -1; dir <= 4; dir++ {
				if got := impl.NextCell(c, cell, dir); got != -1 {
					t.Error("other city", c, cell, dir, got)
				}
			}
		}
	}
	for wide := 1; wide <= 6; wide++ {
		c := flatCity(wide, 1)
		for _, cell := range otherFrom(0, wide*wide-1) {
			for dir := -1; dir <= 4; dir++ {
				if got := impl.NextCell(c, cell, dir); got != -1 {
					t.Error("other cell", c, cell, dir, got)
				}
			}
		}
		for _, dir := range otherFrom(0, 3) {
			for cell := -1; cell <= wide*wide; cell++ {
				if got := impl.NextCell(c, cell, dir); got != -1 {
					t.Error("other direction", c, cell, dir, got)
				}
			}
		}
	}
}

func TestP112OnlyOneCellChanges(t *testing.T) {
	for _, c := range someCities() {
		kept := slices.Clone(c.Tall)
		sum := impl.CitySum(c)
		for cell, before := range kept {
			for _, tall := range []int{before, 0, 1, 10, 19, 20} {
				got, ok := impl.CitySet(c, cell, tall)
				if want := withTall(c, cell, tall); !ok || got.Wide != want.Wide || !slices.Equal(got.Tall, want.Tall) {
					t.Error("set", c, cell, tall, got, ok)
				}
				if impl.CitySum(got) != sum+tall-before {
					t.Error("sum", c, cell, tall, got)
				}
				got.Tall[len(got.Tall)-1-cell] = 13
				if !slices.Equal(c.Tall, kept) {
					t.Fatal("shares memory", kept, c)
				}
			}
		}
	}
}

func TestP112OtherCellsAreNotSet(t *testing.T) {
	check := func(c impl.City, cell, tall int) {
		if got, ok := impl.CitySet(c, cell, tall); ok || got.Wide != 0 || len(got.Tall) != 0 {
			t.Error(c, cell, tall, got, ok)
		}
	}
	for _, c := range otherCities() {
		for cell := -1; cell <= 2; cell++ {
			check(c, cell, 1)
		}
		check(c, 35, 1)
	}
	for wide := 1; wide <= 6; wide++ {
		for _, cell := range otherFrom(0, wide*wide-1) {
			for _, tall := range []int{-1, 0, 4, 20, 21} {
				check(flatCity(wide, 4), cell, tall)
			}
		}
		for _, tall := range otherFrom(0, 20) {
			for cell := -1; cell <= wide*wide; cell++ {
				check(flatCity(wide, 4), cell, tall)
			}
		}
	}
}

func TestP113FourRightAnglesAreAWholeTurn(t *testing.T) {
	for _, c := range someCities() {
		kept := slices.Clone(c.Tall)
		turned := impl.CityTurn(c)
		if turned.Wide != c.Wide || len(turned.Tall) != len(c.Tall) {
			t.Fatal("cells", c, turned)
		}
		for x := range c.Wide {
			for y := range c.Wide {
				if turned.Tall[c.Wide-1-y+x*c.Wide] != c.Tall[x+y*c.Wide] {
					t.Error("turned", c, turned, x, y)
				}
			}
		}
		if turned.Tall[c.Wide-1] != c.Tall[0] {
			t.Error("south-west", c, turned)
		}
		whole := impl.CityTurn(impl.CityTurn(impl.CityTurn(turned)))
		if whole.Wide != c.Wide || !slices.Equal(whole.Tall, c.Tall) {
			t.Error("whole turn", c, whole)
		}
		turned.Tall[0], whole.Tall[0] = 17, 18
		if !slices.Equal(c.Tall, kept) {
			t.Fatal("shares memory", kept, c)
		}
	}
	if got := impl.CityTurn(city(3, 0, 5, 2, 1, 1, 1, 0, 0, 4)); !slices.Equal(got.Tall, []int{0, 1, 0, 0, 1, 5, 4, 1, 2}) {
		t.Error("known city", got)
	}
	for _, c := range otherCities() {
		if got := impl.CityTurn(c); got.Wide != 0 || len(got.Tall) != 0 {
			t.Error("other city", c, got)
		}
	}
}

// isSeen tells whether all numbers before an index are less.
func isSeen(list []int, at int) bool {
	for _, number := range list[:at] {
		if number >= list[at] {
			return false
		}
	}
	return true
}

func TestP114WhoIsSeenIsHigher(t *testing.T) {
	lists := [][]int{
		nil, {}, {0}, {-7}, {2, 1, 3, 3, 5}, {1, 2, 3, 4}, {4, 3, 2, 1}, {5, 5, 5}, {-3, -4, -2, -2, -1}, {0, -1, 0, 1, 0, 1, 2},
		{math.MinInt}, {math.MinInt, math.MinInt, math.MinInt + 1, math.MaxInt, math.MaxInt}, {math.MaxInt, math.MinInt, 0}, {-1, math.MinInt, 1}, {math.MinInt, -1, math.MaxInt - 1, math.MaxInt},
	}
	for seed := range 300 {
		var list []int
		for i := range seed % 12 {
			list = append(list, mixed(seed, i, 3+seed%17)-5)
		}
		lists = append(lists, list)
	}
	long := make([]int, 5000)
	for i := range long {
		long[i] = i / 2
	}
	lists = append(lists, long)
	for _, list := range lists {
		kept := slices.Clone(list)
		got := impl.Seen(list)
		var want []int
		for at := range list {
			if isSeen(list, at) {
				want = append(want, at)
			}
		}
		if !slices.Equal(got, want) {
			t.Error(list, got, want)
		}
		for i := range got {
			got[i] = -99
		}
		if !slices.Equal(list, kept) {
			t.Error("changed", kept, list)
		}
	}
	if got := impl.Seen([]int{2, 1, 3, 3, 5}); !slices.Equal(got, []int{0, 2, 4}) {
		t.Error("known list", got)
	}
}

func TestP115TurnedACityIsAsGreat(t *testing.T) {
	for _, c := range someCities() {
		want := 0
		for _, tall := range c.Tall {
			want += tall
		}
		if got := impl.CitySum(c); got != want || got != impl.CitySum(impl.CityTurn(c)) {
			t.Error("sum", c, got, want)
		}
	}
	for wide := 1; wide <= 6; wide++ {
		if impl.CitySum(flatCity(wide, 0)) != 0 || impl.CitySum(flatCity(wide, 20)) != 20*wide*wide {
			t.Error("flat", wide)
		}
	}
	for _, c := range otherCities() {
		if got := impl.CitySum(c); got != -1 {
			t.Error("other city", c, got)
		}
	}
}
