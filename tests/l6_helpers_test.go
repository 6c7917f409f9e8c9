package tests

import (
	"math"
	"slices"
	"testing"

	"loop.example/sundials/impl"
)

func city(wide int, tall ...int) impl.City {
	return impl.City{Wide: wide, Tall: tall}
}

func house(from, to, tall int) impl.House {
	return impl.House{From: from, To: to, Tall: tall}
}

func edge(at, tall int) impl.Edge {
	return impl.Edge{At: at, Tall: tall}
}

// mixed is a number in 0..below-1 that follows from a seed and a place, as if by chance.
func mixed(seed, place, below int) int {
	x := uint32(seed)*2654435761 + uint32(place)*40503 + 12345
	x ^= x >> 15
	x *= 2246822519
	x ^= x >> 13
	return int(x % uint32(below))
}

// flatCity has the same height everywhere.
func flatCity(wide, tall int) impl.City {
	return city(wide, slices.Repeat([]int{tall}, wide*wide)...)
}

// withTall is the city with another height of a cell.
func withTall(c impl.City, cell, tall int) impl.City {
	c.Tall = slices.Clone(c.Tall)
	c.Tall[cell] = tall
	return c
}

// smallCities are all of one cell, and those of four cells with heights from nothing to the greatest.
func smallCities() []impl.City {
	var list []impl.City
	for tall := 0; tall <= 20; tall++ {
		list = append(list, city(1, tall))
	}
	some := []int{0, 1, 3, 6, 20}
	for _, a := range some {
		for _, b := range some {
			for _, c := range some {
				for _, d := range some {
					list = append(list, city(2, a, b, c, d))
				}
			}
		}
	}
	return list
}

// someCities are small ones, flat ones, ones with a tower, stairs, and mixed ones of every width.
func someCities() []impl.City {
	list := append(smallCities(), city(3, 0, 5, 2, 1, 1, 1, 0, 0, 4), city(3, 0, 1, 2, 3, 4, 5, 6, 7, 8), city(4, 20, 15, 10, 5, 19, 15, 11, 7, 3, 2, 1, 0, 0, 1, 2, 3))
	for wide := 3; wide <= 6; wide++ {
		flat := flatCity(wide, 0)
		list = append(list, flat, flatCity(wide, 1), flatCity(wide, 20), withTall(flat, 0, 20), withTall(flat, wide-1, 3), withTall(flat, wide*wide-1, 20), withTall(flat, wide+1, 9))
		for seed := range 12 {
			mix := flat
			for cell := range flat.Tall {
				// Some are low with few steps, others use all heights.
				mix = withTall(mix, cell, mixed(seed, cell+wide*100, 3+seed%4*6))
			}
			list = append(list, mix)
		}
	}
	return list
}

// otherCities are cities that are not valid, each for one reason.
func otherCities() []impl.City {
	list := []impl.City{
		{}, city(0, 1), city(-1, 1), city(-2, 1, 1, 1, 1), flatCity(7, 1), flatCity(-6, 1), flatCity(7, 0), flatCity(20, 3),
		city(1), city(2), city(6), city(1, 1, 1), city(2, 1, 1, 1), city(2, 1, 1, 1, 1, 1), city(2, 1, 1), city(3, 1, 1, 1), city(6, 1, 1, 1, 1, 1, 1),
		// The square of these numbers does not fit, and wraps round to 0.
		city(math.MinInt), city(1 << 32), city(-(1 << 32)), city(math.MaxInt), city(math.MaxInt, 1), city(math.MinInt, 1),
	}
	for _, tall := range append(otherNumbers(20), -1, -20, 21) {
		list = append(list, city(1, tall), city(2, tall, 1, 1, 1), city(2, 1, 1, 1, tall), withTall(flatCity(6, 20), 17, tall))
	}
	return list
}

// otherFrom are numbers outside of least..most, just so and by far.
func otherFrom(least, most int) []int {
	return []int{math.MinInt, math.MinInt + 1, math.MinInt32, -100000, least - 2, least - 1, most + 1, most + 2, 2*most + 2, 100000, math.MaxInt32, math.MaxInt - 1, math.MaxInt}
}

// behind is the cell that is so many cells away in a direction, told by column and row; -1 if it is not in the city.
func behind(wide, cell, dir, many int) int {
	steps := [4][2]int{impl.DirEast: {1, 0}, impl.DirNorth: {0, 1}, impl.DirWest: {-1, 0}, impl.DirSouth: {0, -1}}
	column, row := cell%wide+many*steps[dir][0], cell/wide+many*steps[dir][1]
	if column < 0 || column >= wide || row < 0 || row >= wide {
		return -1
	}
	return column + row*wide
}

// isDark tells, cell by cell towards the sun, whether one stands higher than the light.
func isDark(c impl.City, cell, dir, fall int) bool {
	for many := 1; many < c.Wide; many++ {
		other := behind(c.Wide, cell, dir, many)
		if other >= 0 && c.Tall[other] > c.Tall[cell]+many*fall {
			return true
		}
	}
	return false
}

// litIn are the cells that are not dark.
func litIn(c impl.City, dir, fall int) []int {
	var list []int
	for cell := range c.Tall {
		if !isDark(c, cell, dir, fall) {
			list = append(list, cell)
		}
	}
	return list
}

// eachLight calls f for some cities, every direction and every fall.
func eachLight(t *testing.T, f func(c impl.City, dir, fall int)) {
	t.Helper()
	for _, c := range someCities() {
		kept := slices.Clone(c.Tall)
		for dir := range 4 {
			for fall := 0; fall <= 5; fall++ {
				f(c, dir, fall)
			}
		}
		if !slices.Equal(c.Tall, kept) {
			t.Error("changed", c, kept)
		}
		if t.Failed() {
			t.FailNow()
		}
	}
}

// eachOtherLight calls f for a city, a direction and a fall of which at least one is not valid.
func eachOtherLight(f func(c impl.City, dir, fall int)) {
	for _, c := range otherCities() {
		for dir := -1; dir <= 4; dir++ {
			f(c, dir, 0)
			f(c, dir, 5)
		}
	}
	for _, c := range []impl.City{city(1, 0), city(2, 0, 20, 20, 0), flatCity(6, 4), withTall(flatCity(6, 0), 35, 20)} {
		for _, dir := range otherFrom(0, 3) {
			for fall := -1; fall <= 6; fall++ {
				f(c, dir, fall)
			}
		}
		for _, fall := range otherFrom(0, 5) {
			for dir := -1; dir <= 4; dir++ {
				f(c, dir, fall)
			}
		}
	}
}

// someRows are rows of 0 to 6 houses: alone, apart, touching each other, one behind or over the other, at the ends of the street, and mixed ones.
func someRows() [][]impl.House {
	a, b, c := house(1, 5, 3), house(3, 7, 4), house(7, 9, 4)
	list := [][]impl.House{
		nil, {}, {a}, {b}, {c}, {house(0, 40, 20)}, {house(0, 1, 1)}, {house(39, 40, 20)}, {house(39, 40, 1), house(0, 1, 20)},
		{a, b, c}, {c, a}, {a, a}, {a, house(1, 5, 4)}, {house(1, 5, 2), a},
		// Touching: as high, higher, lower, and with a gap of one.
		{house(2, 4, 5), house(4, 6, 5)}, {house(4, 6, 5), house(2, 4, 5)}, {house(2, 4, 5), house(4, 6, 7)}, {house(2, 4, 7), house(4, 6, 5)}, {house(2, 4, 5), house(5, 6, 5)}, {house(0, 20, 9), house(20, 40, 9)},
		// Behind a higher one, before a lower one, and in the middle of both.
		{house(0, 9, 9), house(3, 6, 4)}, {house(0, 9, 4), house(3, 6, 9)}, {house(0, 9, 4), house(3, 6, 4)}, {house(0, 9, 4), house(0, 6, 9)}, {house(0, 9, 4), house(6, 9, 9)}, {house(5, 6, 20), house(4, 7, 15), house(3, 8, 10), house(2, 9, 5), house(1, 10, 2), house(0, 11, 1)},
		{a, b, c, a, b, c}, slices.Repeat([]impl.House{house(0, 40, 20)}, 6), {house(0, 2, 1), house(2, 4, 2), house(4, 6, 3), house(6, 8, 2), house(8, 10, 2), house(10, 40, 1)},
	}
	for seed := range 150 {
		var row []impl.House
		for i := range seed % 7 {
			from := mixed(seed, i, 40)
			row = append(row, house(from, from+1+mixed(seed, i+50, min(40-from, 4+seed%40)), 1+mixed(seed, i+90, 3+seed%18)))
		}
		list = append(list, row)
	}
	return list
}

// talls are the heights over the stretches of a street, from the place 0 on, as each house in turn covers them.
func talls(row []impl.House) [40]int {
	var street [40]int
	for _, h := range row {
		for place := h.From; place < h.To; place++ {
			street[place] = max(street[place], h.Tall)
		}
	}
	return street
}

// tallOver is the height over any place, also outside of the street.
func tallOver(row []impl.House, place int) int {
	if place < 0 || place >= 40 {
		return 0
	}
	return talls(row)[place]
}

// changesOf is the outline of a street that is told by its heights.
func changesOf(street [40]int) []impl.Edge {
	var line []impl.Edge
	before := 0
	for place, tall := range street {
		if tall != before {
			line = append(line, edge(place, tall))
		}
		before = tall
	}
	if before != 0 {
		line = append(line, edge(40, 0))
	}
	return line
}

// otherRows are rows of houses that are not valid, each for one reason.
func otherRows() [][]impl.House {
	fine := house(1, 5, 3)
	list := [][]impl.House{slices.Repeat([]impl.House{fine}, 7), slices.Repeat([]impl.House{fine}, 1000)}
	for _, h := range otherHouses() {
		list = append(list, []impl.House{h}, []impl.House{h, fine}, []impl.House{fine, h}, []impl.House{fine, fine, fine, fine, fine, h})
	}
	return list
}

// otherHouses are houses that are not valid: of no width, outside of the street, and not high enough or too high.
func otherHouses() []impl.House {
	list := []impl.House{
		{}, house(0, 0, 3), house(5, 5, 3), house(40, 40, 3), house(5, 4, 3), house(9, 0, 3), house(40, 41, 3), house(39, 41, 3), house(-1, 0, 3), house(-1, 3, 3), house(2, 4, 0), house(2, 4, -1), house(2, 4, -3), house(2, 4, 21),
		house(math.MinInt, math.MaxInt, 3), house(math.MaxInt, math.MinInt, 3), house(math.MaxInt, math.MaxInt, 3),
	}
	for _, n := range otherNumbers(40) {
		list = append(list, house(n, 5, 3), house(1, n, 3), house(1, 5, n))
	}
	return list
}

// otherOutlines are outlines that are not valid, each for one reason.
func otherOutlines() [][]impl.Edge {
	list := [][]impl.Edge{
		{edge(0, 0)}, {edge(5, 0)}, {edge(40, 0)}, {edge(0, 1)}, {edge(40, 20)}, {edge(3, 2), edge(5, 4)},
		{edge(3, 2), edge(3, 0)}, {edge(3, 2), edge(2, 0)}, {edge(3, 2), edge(5, 4), edge(4, 0)}, {edge(3, 2), edge(5, 4), edge(5, 1), edge(6, 0)},
		{edge(3, 2), edge(5, 2), edge(6, 0)}, {edge(3, 2), edge(5, 0), edge(6, 0)}, {edge(3, 0), edge(5, 2), edge(6, 0)}, {edge(3, 2), edge(5, 0), edge(7, 0), edge(8, 1), edge(9, 0)},
		{edge(-1, 2), edge(5, 0)}, {edge(-1, 0), edge(1, 2), edge(5, 0)}, {edge(3, 2), edge(41, 0)}, {edge(41, 2), edge(42, 0)}, {edge(3, 21), edge(5, 0)}, {edge(3, -1), edge(5, 0)}, {edge(3, 2), edge(4, 21), edge(5, 0)}, {edge(3, 2), edge(4, -1), edge(5, 0)},
	}
	for _, n := range otherNumbers(40) {
		list = append(list, []impl.Edge{edge(n, 2), edge(5, 0)}, []impl.Edge{edge(3, 2), edge(n, 0)}, []impl.Edge{edge(3, n), edge(5, 0)}, []impl.Edge{edge(3, 2), edge(5, n)}, []impl.Edge{edge(3, 2), edge(4, n), edge(5, 0)})
	}
	for _, many := range []int{41, 42, 1000} {
		var line []impl.Edge
		for at := range many {
			line = append(line, edge(at, (at+1)%2))
		}
		list = append(list, line)
	}
	return list
}
