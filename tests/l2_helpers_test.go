package tests

import (
	"math"
	"math/big"

	"loop.example/sundials/impl"
)

func way(east, north int) impl.Way {
	return impl.Way{East: east, North: north}
}

func opposite(w impl.Way) impl.Way {
	return way(-w.East, -w.North)
}

// smallWays are all ways with numbers in -most..most, nothing among them.
func smallWays(most int) []impl.Way {
	var list []impl.Way
	for east := -most; east <= most; east++ {
		for north := -most; north <= most; north++ {
			list = append(list, way(east, north))
		}
	}
	return list
}

// farWays are long valid ways: those to the ends, along the axes and nearly so, and some that have nearly the same direction.
func farWays() []impl.Way {
	var list []impl.Way
	for _, w := range []impl.Way{
		way(1000, 0), way(1000, 1), way(999, 1), way(1000, 1000), way(1000, 999), way(999, 998), way(1, 1000), way(17, 23), way(340, 460),
	} {
		for range 4 {
			list = append(list, w)
			w = way(-w.North, w.East)
		}
	}
	return list
}

// goingWays are ways of every kind that are valid and not nothing.
func goingWays() []impl.Way {
	var list []impl.Way
	for _, w := range smallWays(2) {
		if w != (impl.Way{}) {
			list = append(list, w)
		}
	}
	return append(list, farWays()...)
}

// longWays are ways that are not valid, in every direction.
func longWays() []impl.Way {
	list := []impl.Way{
		way(math.MinInt, math.MinInt), way(math.MaxInt, math.MaxInt), way(math.MinInt, 0), way(0, math.MinInt), way(math.MaxInt, 1), way(-1, math.MaxInt),
	}
	for _, n := range []int{1001, -1001, 1024, 5000, -5000, 1 << 20, -(1 << 20), math.MinInt32, math.MaxInt32} {
		list = append(list, way(n, 0), way(0, n), way(n, n), way(n, 1), way(-1, n))
	}
	return list
}

// noWays are those that have no direction for RoundLess: nothing, and ways that are not valid.
func noWays() []impl.Way {
	return append(longWays(), impl.Way{})
}

// around is the angle of a way that is not nothing, from the east by the north on, as the standard library tells it.
func around(w impl.Way) float64 {
	angle := math.Atan2(float64(w.North), float64(w.East))
	if angle < 0 {
		angle += 2 * math.Pi
	}
	return angle
}

// before tells by angles whether one valid way comes before another. Different ones are farther apart than a few ten-millionths.
func before(a, b impl.Way) bool {
	return around(a) < around(b)-1e-9
}

// someAngles are angles of several turns either way, and the ends of all numbers.
func someAngles() []int {
	list := nearInts(90, 180, 270, 360, 720, -360, 1<<40, -(1 << 40))
	for angle := -1100; angle <= 1100; angle++ {
		list = append(list, angle)
	}
	return list
}

// turned is the sum of an angle and another number in 0..359, without overflow.
func turned(angle, more int) int {
	sum := new(big.Int).Add(big.NewInt(int64(angle)), big.NewInt(int64(more)))
	return int(sum.Mod(sum, big.NewInt(360)).Int64())
}
