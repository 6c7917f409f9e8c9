package tests

import (
	"math"
	"testing"
)

type sky struct {
	latitude, tilt int
}

// eachSky calls f for every valid latitude and tilt.
func eachSky(t *testing.T, f func(latitude, tilt int)) {
	t.Helper()
	for latitude := -90; latitude <= 90; latitude++ {
		for tilt := -23; tilt <= 23; tilt++ {
			f(latitude, tilt)
			if t.Failed() {
				t.FailNow()
			}
		}
	}
}

// otherSkies are latitudes and tilts that are not valid together, just so and by far.
func otherSkies() []sky {
	var list []sky
	for _, latitude := range nearInts(90, -90, 360) {
		for _, tilt := range nearInts(23, -23, 360) {
			if latitude < -90 || latitude > 90 || tilt < -23 || tilt > 23 {
				list = append(list, sky{latitude, tilt})
			}
		}
	}
	return list
}

// otherDays are days that no year has.
func otherDays() []int {
	return []int{math.MinInt, math.MinInt32, -366, -1, 0, 367, 368, 446, math.MaxInt32, math.MaxInt}
}

// otherMinutes are minutes that no day has.
func otherMinutes() []int {
	return []int{math.MinInt, math.MinInt32, -1440, -1, 1440, 1441, 2160, math.MaxInt32, math.MaxInt}
}

// isNearest reports whether a number divided by a million and rounded, half a unit up, is a result.
func isNearest(result, number int) bool {
	return 2*number >= (2*result-1)*1000000 && 2*number < (2*result+1)*1000000
}

// yearAngle tells by how many degrees, rounded down, so many days of a year are turned.
func yearAngle(days int) int {
	return int(math.Floor(float64(360*days) / 365))
}
