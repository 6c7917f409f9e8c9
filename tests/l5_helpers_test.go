package tests

import (
	"math"
	"testing"

	"loop.example/sundials/impl"
)

func place(east, north int) impl.Place {
	return impl.Place{East: east, North: north}
}

func block(west, east, south, north, height int) impl.Block {
	return impl.Block{West: west, East: east, South: south, North: north, Height: height}
}

func ray(east, north, up int) impl.Ray {
	return impl.Ray{East: east, North: north, Up: up}
}

func spot(east, north, den int) impl.Spot {
	return impl.Spot{East: east, North: north, Den: den}
}

// withHeight is the block over the same four sides with another height.
func withHeight(b impl.Block, height int) impl.Block {
	b.Height = height
	return b
}

// someBlocks are flat and high, narrow and wide ones, in the middle, at the ends, and over all places.
func someBlocks() []impl.Block {
	return []impl.Block{
		block(0, 4, 0, 2, 6), block(-1, 1, -1, 1, 1), block(-3, 2, -5, -4, 30), block(2, 3, -50, 50, 17), block(49, 50, 49, 50, 30), block(-50, -49, 10, 20, 13), block(-50, 50, -50, 50, 29),
	}
}

// someRays are directions to all sides, along the axes and beside them, high, low, and in the zenith.
func someRays() []impl.Ray {
	var list []impl.Ray
	numbers := []int{-20, -7, -3, -1, 0, 1, 2, 7, 20}
	for _, east := range numbers {
		for _, north := range numbers {
			for _, up := range []int{1, 2, 3, 10, 19, 20} {
				list = append(list, ray(east, north, up))
			}
		}
	}
	return list
}

// fewRays are some of someRays, where all of them would take too long.
func fewRays() []impl.Ray {
	var list []impl.Ray
	for i, r := range someRays() {
		if i%11 == 0 {
			list = append(list, r)
		}
	}
	return append(list, ray(0, 0, 1), ray(0, 0, 20))
}

// numbersBeside are numbers of places just beside both sides of a block, and some far away.
func numbersBeside(low, high int) []int {
	var list []int
	for number := -50; number <= 50; number++ {
		if number%10 == 0 || number >= low-2 && number <= low+2 || number >= high-2 && number <= high+2 {
			list = append(list, number)
		}
	}
	return list
}

// placesBeside are places at the edges and corners of a block, under it, just beside it, and far away.
func placesBeside(b impl.Block) []impl.Place {
	var list []impl.Place
	for _, east := range numbersBeside(b.West, b.East) {
		for _, north := range numbersBeside(b.South, b.North) {
			list = append(list, place(east, north))
		}
	}
	return list
}

// eachScene calls f for places beside some blocks and directions to the sun.
func eachScene(t *testing.T, rays []impl.Ray, f func(p impl.Place, b impl.Block, r impl.Ray)) {
	t.Helper()
	for _, b := range someBlocks() {
		for _, p := range placesBeside(b) {
			for _, r := range rays {
				f(p, b, r)
			}
			if t.Failed() {
				t.FailNow()
			}
		}
	}
}

// inSpan reports whether a number lies among numbers from the least of them up to the greatest.
func inSpan(number int, among ...int) bool {
	least, most := among[0], among[0]
	for _, other := range among {
		least, most = min(least, other), max(most, other)
	}
	return number >= least && number <= most
}

// isShadowed tells shadows without going to the sun: the shadow is all that the foot covers while it moves away from the sun,
// a shape with sides along both axes and along the direction. A place is in it if it is between them, all three seen along them.
func isShadowed(p impl.Place, b impl.Block, r impl.Ray) bool {
	toEast, toNorth := r.East*b.Height, r.North*b.Height
	across := func(east, north int) int {
		return r.East*north - r.North*east
	}
	return inSpan(p.East*r.Up, b.West*r.Up, b.East*r.Up, b.West*r.Up-toEast, b.East*r.Up-toEast) &&
		inSpan(p.North*r.Up, b.South*r.Up, b.North*r.Up, b.South*r.Up-toNorth, b.North*r.Up-toNorth) &&
		inSpan(across(p.East, p.North), across(b.West, b.South), across(b.East, b.South), across(b.East, b.North), across(b.West, b.North))
}

// isUnder tells the places under a block, with its edges.
func isUnder(p impl.Place, b impl.Block) bool {
	return p.East >= b.West && p.East <= b.East && p.North >= b.South && p.North <= b.North
}

// otherNumbers are outside of -most..most, just so and by far.
func otherNumbers(most int) []int {
	return []int{math.MinInt, math.MinInt + 1, math.MinInt32, -10000000, -most - 2, -most - 1, most + 1, most + 2, 10000000, math.MaxInt32, math.MaxInt - 1, math.MaxInt}
}

// otherPlaces are places that are not valid.
func otherPlaces() []impl.Place {
	var list []impl.Place
	for _, n := range otherNumbers(50) {
		list = append(list, place(n, 0), place(0, n), place(n, n), place(50, n), place(n, -50))
	}
	return list
}

// otherBlocks are blocks that are not valid, each for one reason.
func otherBlocks() []impl.Block {
	list := []impl.Block{
		{}, block(0, 4, 0, 2, 0), block(0, 0, 0, 2, 6), block(0, 4, 2, 2, 6), block(4, 0, 0, 2, 6), block(0, 4, 2, 0, 6), block(1, 0, 1, 0, 6),
		block(0, 4, 0, 2, -1), block(0, 4, 0, 2, -6), block(0, 4, 0, 2, 31), block(0, 4, 0, 2, 32), block(-50, -50, 50, 50, 1), block(50, -50, -50, 50, 30),
	}
	for _, n := range otherNumbers(50) {
		list = append(list, block(n, 4, 0, 2, 6), block(0, n, 0, 2, 6), block(0, 4, n, 2, 6), block(0, 4, 0, n, 6), block(0, 4, 0, 2, n))
	}
	return list
}

// otherRays are directions to the sun that are not valid: on the horizon, below it, and with too great numbers.
func otherRays() []impl.Ray {
	list := []impl.Ray{{}, ray(1, 0, 0), ray(0, -20, 0), ray(20, 20, 0), ray(0, 0, -1), ray(3, -3, -1), ray(-20, 0, -20), ray(0, 1, math.MinInt)}
	for _, n := range otherNumbers(20) {
		list = append(list, ray(n, 0, 1), ray(0, n, 20), ray(n, n, 3), ray(0, 0, n), ray(-1, 1, n), ray(n, -20, n))
	}
	return list
}

// eachOtherScene calls f for scenes that are not valid, for one reason or for more.
func eachOtherScene(f func(p impl.Place, b impl.Block, r impl.Ray)) {
	places := append(otherPlaces(), place(0, 0), place(1, 1), place(50, 50))
	blocks := append(otherBlocks(), block(0, 4, 0, 2, 6), block(-50, 50, -50, 50, 30))
	rays := append(otherRays(), ray(0, 0, 1), ray(-2, 3, 1))
	fine := [3]int{len(otherPlaces()), len(otherBlocks()), len(otherRays())}
	for i, p := range places {
		for j, b := range blocks {
			for k, r := range rays {
				if i < fine[0] || j < fine[1] || k < fine[2] {
					f(p, b, r)
				}
			}
		}
	}
}
