package tests

import (
	"math"
	"slices"
	"testing"

	"loop.example/sundials/impl"
)

func face(east, north, up int) impl.Face {
	return impl.Face{East: east, North: north, Up: up}
}

func hourWith(gain, need int) impl.Hour {
	return impl.Hour{Gain: gain, Need: need}
}

func load(first, last int) impl.Load {
	return impl.Load{First: first, Last: last}
}

// turnedFace is the face turned by a right angle from the east to the north.
func turnedFace(f impl.Face) impl.Face {
	return face(-f.North, f.East, f.Up)
}

// someFaces look to all sides, straight up, and along the ground.
func someFaces() []impl.Face {
	var list []impl.Face
	numbers := []int{-10, -9, -3, -1, 0, 1, 4, 10}
	for _, east := range numbers {
		for _, north := range numbers {
			for _, up := range []int{0, 1, 2, 9, 10} {
				if east != 0 || north != 0 || up != 0 {
					list = append(list, face(east, north, up))
				}
			}
		}
	}
	return list
}

// otherFaces look nowhere, down, or have too great numbers.
func otherFaces() []impl.Face {
	list := []impl.Face{{}, face(0, 0, -1), face(1, 0, -1), face(3, -3, -10), face(-10, 10, -1), face(0, 1, math.MinInt)}
	for _, n := range otherNumbers(10) {
		list = append(list, face(n, 0, 0), face(0, n, 10), face(n, n, 3), face(0, 0, n), face(-1, 1, n), face(n, -10, n))
	}
	return list
}

// gainBySquares tells the sum of the products by the squares of the sum and of the difference of both.
func gainBySquares(f impl.Face, r impl.Ray) int {
	square := func(a, b, c int) int {
		return a*a + b*b + c*c
	}
	together := square(f.East+r.East, f.North+r.North, f.Up+r.Up)
	apart := square(f.East-r.East, f.North-r.North, f.Up-r.Up)
	if together <= apart {
		return 0
	}
	return (together - apart) / 4
}

// eachListOf calls f with all lists of up to most of some elements.
func eachListOf[T any](some []T, most int, f func(list []T)) {
	lists := [][]T{nil}
	for many := 0; many <= most; many++ {
		var longer [][]T
		for _, list := range lists {
			f(list)
			for _, element := range some {
				longer = append(longer, append(slices.Clone(list), element))
			}
		}
		lists = longer
	}
}

// someValues are rows of up to ten values: none, one place, all the same, up and down, nothing among them, and mixed ones.
func someValues() [][]int {
	list := [][]int{
		{5, 9, 6, 1, 4}, {50}, {0}, {1, 2, 3, 4, 5, 6, 7, 8, 9, 10}, {10, 9, 8, 7, 6, 5, 4, 3, 2, 1}, {50, 0, 50, 0, 50, 0, 50, 0, 50, 0}, {0, 50, 0, 50, 0, 50, 0, 50, 0, 50},
		{3, 5, 3, 1, 3, 5, 3}, {2, 3, 2, 2, 3, 2, 2, 3, 2}, {1, 1, 0, 0, 1, 1, 0, 0, 1, 1},
	}
	eachListOf([]int{0, 1, 2, 5}, 5, func(row []int) {
		list = append(list, row)
	})
	for long := range 11 {
		list = append(list, make([]int, long), slices.Repeat([]int{50}, long), slices.Repeat([]int{1}, long))
		for seed := range 20 {
			var row []int
			for i := range long {
				row = append(row, mixed(seed+long*100, i, []int{2, 4, 9, 51}[seed%4]))
			}
			list = append(list, row)
		}
	}
	return list
}

// otherValues are rows that are not valid, each for one reason.
func otherValues() [][]int {
	list := [][]int{make([]int, 11), slices.Repeat([]int{50}, 11), slices.Repeat([]int{1}, 1000)}
	for _, n := range otherFrom(0, 50) {
		list = append(list, []int{n}, []int{n, 1}, []int{1, n}, []int{1, 2, 3, 4, n, 6, 7, 8, 9, 10}, []int{1, 2, 3, 4, 5, 6, 7, 8, 9, n})
	}
	return list
}

// placesIn are the places of a set, in ascending order.
func placesIn(set int) []int {
	var list []int
	for place := range 10 {
		if set>>place&1 == 1 {
			list = append(list, place)
		}
	}
	return list
}

// apartIn are all sets of places of a row of which no two are side by side.
func apartIn(long int) []int {
	var sets []int
	for set := range 1 << long {
		if set&(set>>1) == 0 {
			sets = append(sets, set)
		}
	}
	return sets
}

// worth is the sum of the values at places.
func worth(values, places []int) int {
	sum := 0
	for _, place := range places {
		sum += values[place]
	}
	return sum
}

// plannedDays are days of up to ten hours: with and without gains and needs, the greatest ones, and mixed ones.
func plannedDays() [][]impl.Hour {
	list := [][]impl.Hour{
		{hourWith(5, 2), hourWith(0, 4), hourWith(1, 3)}, {hourWith(20, 0), hourWith(0, 20)}, {hourWith(0, 20), hourWith(20, 0)},
		{hourWith(0, 3), hourWith(2, 0), hourWith(0, 3)}, {hourWith(0, 3), hourWith(5, 0), hourWith(0, 3)}, {hourWith(0, 3), hourWith(3, 0), hourWith(0, 3)}, {hourWith(20, 20), hourWith(0, 1)},
	}
	eachListOf([]impl.Hour{hourWith(0, 0), hourWith(3, 0), hourWith(0, 2), hourWith(4, 5)}, 4, func(day []impl.Hour) {
		list = append(list, day)
	})
	for long := range 11 {
		for _, h := range []impl.Hour{hourWith(0, 0), hourWith(20, 0), hourWith(0, 20), hourWith(20, 20), hourWith(0, 1), hourWith(19, 20)} {
			list = append(list, slices.Repeat([]impl.Hour{h}, long))
		}
		for seed := range 12 {
			var day []impl.Hour
			for i := range long {
				below := []int{3, 8, 21}[seed%3]
				day = append(day, hourWith(mixed(seed+long*100, i, below), mixed(seed+long*100, i+50, below)))
			}
			list = append(list, day)
		}
	}
	return list
}

// otherPlannedDays are days that are not valid, each for one reason.
func otherPlannedDays() [][]impl.Hour {
	fine := hourWith(5, 2)
	list := [][]impl.Hour{make([]impl.Hour, 11), slices.Repeat([]impl.Hour{fine}, 11), slices.Repeat([]impl.Hour{fine}, 1000)}
	for _, n := range otherFrom(0, 20) {
		for _, h := range []impl.Hour{hourWith(n, 0), hourWith(0, n), hourWith(n, n)} {
			list = append(list, []impl.Hour{h}, []impl.Hour{h, fine}, []impl.Hour{fine, h}, append(slices.Repeat([]impl.Hour{fine}, 9), h))
		}
	}
	return list
}

// eachStore calls f for some days, and stores that hold something and have something at first.
func eachStore(t *testing.T, f func(day []impl.Hour, holds, has int)) {
	t.Helper()
	for _, day := range plannedDays() {
		kept := slices.Clone(day)
		for _, holds := range []int{0, 1, 2, 5, 13, 20, 21, 60, 199, 200} {
			for _, has := range []int{0, 1, 2, 4, 12, 20, 59, 198, 199, 200} {
				if has <= holds {
					f(day, holds, has)
				}
			}
		}
		if !slices.Equal(day, kept) {
			t.Error("changed", day, kept)
		}
		if t.Failed() {
			t.FailNow()
		}
	}
}

// eachOtherStore calls f for a day, and what a store holds and has, of which at least one is not valid.
func eachOtherStore(f func(day []impl.Hour, holds, has int)) {
	for _, day := range otherPlannedDays() {
		f(day, 0, 0)
		f(day, 200, 200)
		f(day, 9, -1)
		f(day, 9, 10)
	}
	for _, day := range [][]impl.Hour{nil, {hourWith(5, 2)}, {hourWith(5, 2), hourWith(0, 4), hourWith(1, 3)}} {
		for _, n := range otherFrom(0, 200) {
			f(day, n, 0)
			f(day, n, n)
			f(day, 200, n)
		}
		for _, holds := range []int{0, 1, 4, 199} {
			f(day, holds, holds+1)
			f(day, holds, 200)
			f(day, holds, -1)
		}
	}
}

// storeByUnits is a store that takes what is gained, and gives what is needed, one after the other; what is gained in an hour is there for it at once.
func storeByUnits(day []impl.Hour, holds, has int) (run []int, lack, lost int) {
	for _, h := range day {
		gain, need := h.Gain, h.Need
		for ; gain > 0 && need > 0; gain-- {
			need--
		}
		for ; gain > 0; gain-- {
			if has < holds {
				has++
			} else {
				lost++
			}
		}
		for ; need > 0; need-- {
			if has > 0 {
				has--
			} else {
				lack++
			}
		}
		run = append(run, has)
	}
	return run, lack, lost
}

// greatestGap is the greatest of the Needs less the Gains of all stretches of a day.
func greatestGap(day []impl.Hour) int {
	most := 0
	for from := range day {
		sum := 0
		for _, h := range day[from:] {
			sum += h.Need - h.Gain
			most = max(most, sum)
		}
	}
	return most
}
