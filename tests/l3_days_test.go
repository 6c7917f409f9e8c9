package tests

import (
	"math"
	"slices"
	"testing"

	"loop.example/sundials/impl"
)

// hoursOf counts the hour angles of a day with the sun above the horizon, below it, and on it.
func hoursOf(latitude, tilt int) (day, night, edge int) {
	for hour := -180; hour <= 179; hour++ {
		switch up := impl.SunUp(latitude, tilt, hour); {
		case up > 0:
			day++
		case up < 0:
			night++
		default:
			edge++
		}
	}
	return day, night, edge
}

// knownDays are a latitude, a tilt, DayLong, NightLong, EdgeLong and SetAt.
func knownDays() [][6]int {
	return [][6]int{
		{0, 0, 179, 179, 2, 89}, {0, 23, 179, 179, 2, 89}, {0, -23, 179, 179, 2, 89}, {45, 0, 179, 179, 2, 89}, {89, 0, 179, 179, 2, 89},
		{40, 10, 197, 163, 0, 98}, {45, 23, 231, 129, 0, 115}, {45, -23, 129, 231, 0, 64}, {-45, -23, 231, 129, 0, 115},
		{52, 23, 247, 113, 0, 123}, {52, -23, 113, 247, 0, 56}, {66, 23, 325, 35, 0, 162}, {66, -23, 35, 325, 0, 17},
		{67, 23, 357, 0, 3, 178}, {67, -23, 0, 357, 3, -1}, {68, 23, 360, 0, 0, 180}, {68, -23, 0, 360, 0, -1},
		{70, 19, 323, 37, 0, 161}, {70, 20, 357, 0, 3, 178}, {70, -20, 0, 357, 3, -1},
		{90, 0, 0, 0, 360, -1}, {-90, 0, 0, 0, 360, -1}, {90, 1, 360, 0, 0, 180}, {90, -1, 0, 360, 0, -1}, {-90, 1, 0, 360, 0, -1}, {-90, -1, 360, 0, 0, 180},
	}
}

func TestP11SummerAndWinterAreTogetherAYearOfEqualDays(t *testing.T) {
	eachSky(t, func(latitude, tilt int) {
		long := impl.DayLong(latitude, tilt)
		if day, _, _ := hoursOf(latitude, tilt); long != day {
			t.Error("counted", latitude, tilt, long, day)
		}
		if long+impl.DayLong(latitude, -tilt)+impl.EdgeLong(latitude, tilt) != 360 {
			t.Error("together", latitude, tilt, long)
		}
		if impl.DayLong(-latitude, -tilt) != long {
			t.Error("other side of the earth", latitude, tilt, long)
		}
	})
	for _, k := range knownDays() {
		if got := impl.DayLong(k[0], k[1]); got != k[2] {
			t.Error("known day", k, got)
		}
	}
	for _, s := range otherSkies() {
		if got := impl.DayLong(s.latitude, s.tilt); got != 0 {
			t.Error("other sky", s, got)
		}
	}
}

func TestP12TheSunIsUpUntilItSets(t *testing.T) {
	eachSky(t, func(latitude, tilt int) {
		set, long := impl.SetAt(latitude, tilt), impl.DayLong(latitude, tilt)
		for hour := 0; hour <= set; hour++ {
			if impl.SunUp(latitude, tilt, hour) <= 0 {
				t.Error("not up", latitude, tilt, set, hour)
			}
		}
		for hour := set + 1; hour <= 180; hour++ {
			if impl.SunUp(latitude, tilt, hour) > 0 {
				t.Error("up again", latitude, tilt, set, hour)
			}
		}
		want := 2*set + 1
		switch set {
		case -1:
			want = 0
		case 180:
			want = 360
		}
		if set < -1 || set > 180 || long != want {
			t.Error("day", latitude, tilt, set, long)
		}
	})
	for _, k := range knownDays() {
		if got := impl.SetAt(k[0], k[1]); got != k[5] {
			t.Error("known set", k, got)
		}
	}
}

func TestP12TheSunSetsNearlyAsTheRealOne(t *testing.T) {
	degree := math.Pi / 180
	eachSky(t, func(latitude, tilt int) {
		if latitude < -60 || latitude > 60 {
			return
		}
		real := math.Acos(-math.Tan(float64(latitude)*degree)*math.Tan(float64(tilt)*degree)) / degree
		if got := impl.SetAt(latitude, tilt); math.Abs(float64(got)-real) > 2 {
			t.Error(latitude, tilt, got, real)
		}
	})
}

func TestP12InOtherSkiesNothingSets(t *testing.T) {
	for _, s := range otherSkies() {
		if got := impl.SetAt(s.latitude, s.tilt); got != -1 {
			t.Error(s, got)
		}
	}
}

func TestP79DayNightAndEdgeAreAll(t *testing.T) {
	eachSky(t, func(latitude, tilt int) {
		got := impl.NightLong(latitude, tilt)
		if _, night, _ := hoursOf(latitude, tilt); got != night {
			t.Error("counted", latitude, tilt, got, night)
		}
		if impl.DayLong(latitude, tilt)+got+impl.EdgeLong(latitude, tilt) != 360 {
			t.Error("together", latitude, tilt, got)
		}
		if impl.DayLong(latitude, -tilt) != got {
			t.Error("half a year later", latitude, tilt, got)
		}
	})
	for _, k := range knownDays() {
		if got := impl.NightLong(k[0], k[1]); got != k[3] {
			t.Error("known night", k, got)
		}
	}
	for _, s := range otherSkies() {
		if got := impl.NightLong(s.latitude, s.tilt); got != 0 {
			t.Error("other sky", s, got)
		}
	}
}

func TestP80OnTheHorizonThereIsLittleTime(t *testing.T) {
	eachSky(t, func(latitude, tilt int) {
		got := impl.EdgeLong(latitude, tilt)
		if _, _, edge := hoursOf(latitude, tilt); got != edge {
			t.Error("counted", latitude, tilt, got, edge)
		}
		if impl.EdgeLong(latitude, -tilt) != got {
			t.Error("half a year later", latitude, tilt, got)
		}
		if tilt == 0 && got == 0 {
			t.Error("without tilt", latitude)
		}
	})
	for _, k := range knownDays() {
		if got := impl.EdgeLong(k[0], k[1]); got != k[4] {
			t.Error("known edge", k, got)
		}
	}
	for _, s := range otherSkies() {
		if got := impl.EdgeLong(s.latitude, s.tilt); got != 0 {
			t.Error("other sky", s, got)
		}
	}
}

func TestP81WhereTheSunDoesNotSetItDoesNotRiseHalfAYearLater(t *testing.T) {
	eachSky(t, func(latitude, tilt int) {
		got := impl.NoSet(latitude, tilt)
		if got != (impl.DayLong(latitude, tilt) == 360) || got != (impl.SunUp(latitude, tilt, 180) > 0) {
			t.Error("all day", latitude, tilt, got)
		}
		if got && !impl.NoRise(latitude, -tilt) {
			t.Error("half a year later", latitude, tilt)
		}
	})
	for _, k := range knownDays() {
		if got := impl.NoSet(k[0], k[1]); got != (k[5] == 180) {
			t.Error("known", k, got)
		}
	}
	for _, s := range otherSkies() {
		if impl.NoSet(s.latitude, s.tilt) {
			t.Error("other sky", s)
		}
	}
}

func TestP82WhereTheSunDoesNotRiseThereIsNoDay(t *testing.T) {
	eachSky(t, func(latitude, tilt int) {
		got := impl.NoRise(latitude, tilt)
		if got != (impl.DayLong(latitude, tilt) == 0) || got != (impl.SunUp(latitude, tilt, 0) <= 0) {
			t.Error("no day", latitude, tilt, got)
		}
	})
	for _, k := range knownDays() {
		if got := impl.NoRise(k[0], k[1]); got != (k[5] == -1) {
			t.Error("known", k, got)
		}
	}
	for _, s := range otherSkies() {
		if impl.NoRise(s.latitude, s.tilt) {
			t.Error("other sky", s)
		}
	}
}

// dayLengths are the lengths of the days of a year by DayLong and TiltOf.
func dayLengths(latitude int) []int {
	var list []int
	for day := 1; day <= 365; day++ {
		list = append(list, impl.DayLong(latitude, impl.TiltOf(day)))
	}
	return list
}

// longDays tells the days, the first one as 1, with a length of at least a number.
func longDays(lengths []int, least int) []int {
	var days []int
	for i, length := range lengths {
		if length >= least {
			days = append(days, i+1)
		}
	}
	return days
}

func TestP83DaysAreTold(t *testing.T) {
	for _, latitude := range []int{-90, -89, -67, -52, -1, 0, 1, 23, 45, 52, 66, 67, 68, 89, 90} {
		lengths, before := dayLengths(latitude), 365
		for _, least := range []int{math.MinInt, -1, 0, 1, 113, 178, 179, 180, 247, 248, 357, 358, 360, 361, math.MaxInt} {
			got := impl.DaysLong(latitude, least)
			if !slices.Equal(got, longDays(lengths, least)) {
				t.Error(latitude, least, got)
			}
			if len(got) > before {
				t.Error("more for a greater length", latitude, least, len(got), before)
			}
			before = len(got)
		}
	}
}

func TestP83EveryLatitudeHasDays(t *testing.T) {
	for latitude := -90; latitude <= 90; latitude++ {
		for least, many := range map[int]int{0: 365, -7: 365, 361: 0} {
			if got := impl.DaysLong(latitude, least); len(got) != many {
				t.Error(latitude, least, got)
			}
		}
	}
}

// daysBetween are the days from one on up to another one.
func daysBetween(from, to int) []int {
	var days []int
	for day := from; day <= to; day++ {
		days = append(days, day)
	}
	return days
}

func TestP83KnownLongDays(t *testing.T) {
	winter := append(daysBetween(1, 6), daysBetween(339, 365)...)
	for _, c := range []struct {
		latitude, least int
		days            []int
	}{
		{0, 179, daysBetween(1, 365)},
		{0, 180, nil},
		{45, 129, daysBetween(1, 365)},
		{45, 130, daysBetween(7, 338)},
		{-45, 231, winter},
		{52, 247, daysBetween(157, 189)},
		{52, 248, nil},
		{-52, 247, winter},
		{66, 300, daysBetween(149, 196)},
		{68, 360, daysBetween(157, 189)},
		{90, 1, daysBetween(84, 262)},
		{90, 360, daysBetween(84, 262)},
		{-90, 360, append(daysBetween(1, 79), daysBetween(266, 365)...)},
	} {
		if got := impl.DaysLong(c.latitude, c.least); !slices.Equal(got, c.days) {
			t.Error(c, got)
		}
	}
}

func TestP83AtOtherLatitudesThereAreNoDays(t *testing.T) {
	for _, latitude := range []int{math.MinInt, -180, -91, 91, 180, 270, math.MaxInt} {
		for _, least := range []int{math.MinInt, -1, 0, 1, 180, 361, math.MaxInt} {
			if got := impl.DaysLong(latitude, least); got != nil {
				t.Error(latitude, least, got)
			}
		}
	}
}

func TestP83DaysAreNewMemory(t *testing.T) {
	first, second := impl.DaysLong(52, 200), impl.DaysLong(52, 200)
	for i := range first {
		first[i] = -1
	}
	if !slices.Equal(second, longDays(dayLengths(52), 200)) || !slices.Equal(impl.DaysLong(52, 200), second) {
		t.Error(second)
	}
}
