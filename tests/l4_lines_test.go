package tests

import (
	"math"
	"testing"

	"loop.example/sundials/impl"
)

func TestP14HalfADayLaterTheLineGoesTheOtherWay(t *testing.T) {
	eachHour(t, func(latitude, hour int) {
		line := lineAt(t, latitude, hour)
		if line != way(impl.Sine(latitude)*impl.Sine(15*hour), 1000*impl.Cosine(15*hour)) {
			t.Error("line", latitude, hour, line)
		}
		if lineAt(t, latitude, halfDayAway(hour)) != opposite(line) {
			t.Error("half a day away", latitude, hour, line)
		}
		if hour > -12 && lineAt(t, latitude, -hour) != way(-line.East, line.North) {
			t.Error("mirror", latitude, hour, line)
		}
		// From noon on the lines follow each other up to the north again.
		if hour != -1 && hour != 11 && bearing(lineAt(t, latitude, hour+1)) <= bearing(line) {
			t.Error("next line", latitude, hour, line)
		}
	})
	for latitude := 1; latitude <= 90; latitude++ {
		if bearing(lineAt(t, latitude, 0)) != 0 || bearing(lineAt(t, latitude, -12)) <= bearing(lineAt(t, latitude, 11)) {
			t.Error("round", latitude)
		}
	}
}

func TestP14KnownLines(t *testing.T) {
	for at, want := range map[[2]int]impl.Way{
		{90, 0}: way(0, 1000000), {1, 0}: way(0, 1000000), {90, 6}: way(1000000, 0), {1, 6}: way(18000, 0), {45, -6}: way(-706000, 0),
		{30, 1}: way(130000, 966000), {30, 4}: way(432500, 500000), {30, -4}: way(-432500, 500000), {30, -8}: way(-432500, -500000),
		{52, 3}: way(787*706, 706000), {52, 11}: way(787*260, -966000), {52, -11}: way(-787*260, -966000), {52, -12}: way(0, -1000000), {89, 7}: way(1000*966, -260000),
	} {
		if got, ok := impl.LineOf(at[0], at[1]); !ok || got != want {
			t.Error(at, got, ok)
		}
	}
}

func TestP14LinesAreNearlyTheRealOnes(t *testing.T) {
	eachHour(t, func(latitude, hour int) {
		degree := math.Pi / 180
		turn, high := float64(15*hour)*degree, float64(latitude)*degree
		line := lineAt(t, latitude, hour)
		real := math.Atan2(math.Sin(high)*math.Sin(turn), math.Cos(turn))
		if away := math.Remainder(bearing(line)-real, 2*math.Pi); math.Abs(away) > degree {
			t.Error(latitude, hour, line, away)
		}
	})
}

func TestP14OtherDialsHaveNoLines(t *testing.T) {
	check := func(latitude, hour int) {
		if line, ok := impl.LineOf(latitude, hour); ok || line != (impl.Way{}) {
			t.Error(latitude, hour, line, ok)
		}
	}
	for _, latitude := range noLyingDials() {
		for hour := -12; hour <= 11; hour++ {
			check(latitude, hour)
		}
		for _, hour := range otherHours() {
			check(latitude, hour)
		}
	}
	for latitude := 1; latitude <= 90; latitude++ {
		for _, hour := range otherHours() {
			check(latitude, hour)
		}
	}
}

func TestP15AStandingDialIsALyingOneAtAnotherLatitude(t *testing.T) {
	for latitude := 0; latitude <= 89; latitude++ {
		for hour := -12; hour <= 11; hour++ {
			line, ok := impl.WallOf(latitude, hour)
			if lying := lineAt(t, 90-latitude, hour); !ok || line != way(lying.East, -lying.North) {
				t.Error("lying", latitude, hour, line, ok)
			}
			if line != way(impl.Cosine(latitude)*impl.Sine(15*hour), -1000*impl.Cosine(15*hour)) {
				t.Error("line", latitude, hour, line)
			}
		}
	}
	for at, want := range map[[2]int]impl.Way{
		{0, 0}: way(0, -1000000), {0, 6}: way(1000000, 0), {89, -6}: way(-18000, 0), {60, 2}: way(250000, -865000),
		{60, -2}: way(-250000, -865000), {60, 10}: way(250000, 865000), {45, -12}: way(0, 1000000), {38, 11}: way(787*260, 966000),
	} {
		if got, ok := impl.WallOf(at[0], at[1]); !ok || got != want {
			t.Error("known line", at, got, ok)
		}
	}
}

func TestP15OtherWallsHaveNoLines(t *testing.T) {
	for _, latitude := range []int{math.MinInt, -360, -90, -89, -1, 90, 91, 360, math.MaxInt} {
		for hour := -13; hour <= 12; hour++ {
			if line, ok := impl.WallOf(latitude, hour); ok || line != (impl.Way{}) {
				t.Error("other latitude", latitude, hour, line, ok)
			}
		}
	}
	for latitude := -1; latitude <= 90; latitude++ {
		for _, hour := range otherHours() {
			if line, ok := impl.WallOf(latitude, hour); ok || line != (impl.Way{}) {
				t.Error("other hour", latitude, hour, line, ok)
			}
		}
	}
}

func TestP16TheShadowTellsTheHour(t *testing.T) {
	eachHour(t, func(latitude, hour int) {
		line := lineAt(t, latitude, hour)
		short := shortest(line)
		far := way(short.East*2, short.North*2)
		for _, shadow := range []impl.Way{line, short, far} {
			inside := max(shadow.East, -shadow.East, shadow.North, -shadow.North) <= 1000000
			if got := impl.HourOn(latitude, shadow); inside && got != hour || !inside && got != 12 {
				t.Error("on the line", latitude, hour, shadow, got)
			}
		}
		if got := impl.HourOn(latitude, opposite(line)); got != halfDayAway(hour) {
			t.Error("turned round", latitude, hour, got)
		}
		for _, beside := range []impl.Way{way(line.East+1, line.North), way(line.East-1, line.North), way(line.East, line.North-1)} {
			// Beside a line along an axis such a way may be on it as well.
			want := 12
			if impl.Cross(line, beside) == 0 {
				want = hour
			}
			if max(beside.East, -beside.East, beside.North, -beside.North) > 1000000 {
				want = 12
			}
			if got := impl.HourOn(latitude, beside); got != want {
				t.Error("beside the line", latitude, hour, beside, got)
			}
		}
	})
}

func TestP16ShadowsBesideTheLinesTellNone(t *testing.T) {
	shadows := append(smallWays(9), farWays()...)
	for latitude := 1; latitude <= 90; latitude++ {
		for _, shadow := range shadows {
			want := 12
			for hour := -12; hour <= 11; hour++ {
				if shadow != (impl.Way{}) && math.Abs(math.Remainder(bearing(shadow)-bearing(lineAt(t, latitude, hour)), 2*math.Pi)) < 1e-11 {
					want = hour
				}
			}
			if got := impl.HourOn(latitude, shadow); got != want {
				t.Fatal(latitude, shadow, got, want)
			}
		}
	}
}

func TestP16OtherShadowsTellNone(t *testing.T) {
	long := []int{math.MinInt, math.MinInt + 1, -1 << 32, -2000000, -1000001, 1000001, 2000000, 1 << 32, math.MaxInt}
	for _, n := range long {
		for _, shadow := range []impl.Way{way(n, 0), way(0, n), way(n, n), way(n, 1000), way(-1000, n)} {
			if got := impl.HourOn(90, shadow); got != 12 {
				t.Error("long shadow", shadow, got)
			}
		}
	}
	for shadow, want := range map[impl.Way]int{
		way(1000000, 0): 6, way(-1000000, 0): -6, way(0, 1000000): 0, way(0, -1000000): -12, way(1000000, 1000000): 3, way(-1000000, -1000000): -9, {}: 12,
	} {
		if got := impl.HourOn(90, shadow); got != want {
			t.Error("at the end", shadow, got)
		}
	}
	for _, latitude := range noLyingDials() {
		for _, shadow := range append(goingWays(), noWays()...) {
			if got := impl.HourOn(latitude, shadow); got != 12 {
				t.Error("other latitude", latitude, shadow, got)
			}
		}
	}
}

// hourByBearing is the hour of the last line that comes, from the north by the east, not behind the shadow.
func hourByBearing(lines []impl.Way, shadow impl.Way) int {
	last := 12
	for i := range 24 {
		hour := (i+12)%24 - 12
		if bearing(lines[hour+12]) <= bearing(shadow)+1e-11 {
			last = hour
		}
	}
	return last
}

// nearShadows are as long as may be, nearly in the direction of a line, and to both sides of it.
func nearShadows(line impl.Way) []impl.Way {
	var list []impl.Way
	most := max(line.East, -line.East, line.North, -line.North)
	w := way(line.East*999/most, line.North*999/most)
	for _, beside := range smallWays(1) {
		list = append(list, impl.WayAdd(w, beside))
	}
	return list
}

func checkBefore(t *testing.T, latitude int, lines []impl.Way, shadow impl.Way) {
	t.Helper()
	got := impl.HourBefore(latitude, shadow)
	if got != hourByBearing(lines, shadow) {
		t.Error("hour", latitude, shadow, got, hourByBearing(lines, shadow))
	}
	if on := impl.HourOn(latitude, shadow); on != 12 && on != got {
		t.Error("on a line", latitude, shadow, got, on)
	}
	if got < -12 || got > 11 || impl.HourBefore(latitude, opposite(shadow)) != halfDayAway(got) {
		t.Error("turned round", latitude, shadow, got)
	}
}

func TestP17BetweenTwoLinesItIsBetweenTwoHours(t *testing.T) {
	shadows := append(smallWays(7), farWays()...)
	for latitude := 1; latitude <= 90; latitude++ {
		lines := impl.LinesOf(latitude)
		for _, shadow := range shadows {
			if shadow != (impl.Way{}) {
				checkBefore(t, latitude, lines, shadow)
			}
		}
		for i, line := range lines {
			for _, shadow := range nearShadows(line) {
				checkBefore(t, latitude, lines, shadow)
			}
			if short := shortest(line); impl.WayValid(short) && impl.HourBefore(latitude, short) != i-12 {
				t.Error("on the line", latitude, i-12, short)
			}
		}
		if t.Failed() {
			t.FailNow()
		}
	}
}

func TestP17KnownShadows(t *testing.T) {
	for shadow, want := range map[impl.Way]int{
		way(0, 1): 0, way(0, 1000): 0, way(1, 1000): 0, way(-1, 1000): -1, way(1, 2): 3, way(1, 3): 2, way(1, 0): 6, way(1000, 1): 5, way(1000, -1): 6,
		way(0, -1): -12, way(1, -1000): 11, way(-1, -1000): -12, way(-1, 0): -6, way(-1000, 1): -6, way(-1000, -1): -7, way(65, 483): 1, way(64, 483): 0,
		way(-65, 483): -1, way(-66, 483): -2, way(-1, -2): -9,
	} {
		if got := impl.HourBefore(30, shadow); got != want {
			t.Error(shadow, got)
		}
	}
}

func TestP17OtherShadowsHaveNoHour(t *testing.T) {
	for _, shadow := range noWays() {
		for _, latitude := range []int{1, 30, 90, 0} {
			if got := impl.HourBefore(latitude, shadow); got != 12 {
				t.Error("other shadow", latitude, shadow, got)
			}
		}
	}
	for _, latitude := range noLyingDials() {
		for _, shadow := range goingWays() {
			if got := impl.HourBefore(latitude, shadow); got != 12 {
				t.Error("other latitude", latitude, shadow, got)
			}
		}
	}
}

func TestP87ADayHas24Hours(t *testing.T) {
	count := 0
	for hour := -50; hour <= 50; hour++ {
		valid := impl.HourValid(hour)
		if valid != (hour >= -12 && hour < 12) {
			t.Error(hour)
		}
		if valid && impl.HourValid(hour+12) == impl.HourValid(hour-12) {
			t.Error("half a day away", hour)
		}
		if valid {
			count++
		}
	}
	if count != 24 {
		t.Error(count)
	}
	for _, hour := range otherHours() {
		if impl.HourValid(hour) {
			t.Error("other hour", hour)
		}
	}
}

func TestP88ThereIsALineForEveryHour(t *testing.T) {
	for latitude := 1; latitude <= 90; latitude++ {
		lines := impl.LinesOf(latitude)
		if len(lines) != 24 {
			t.Fatal("so many", latitude, len(lines))
		}
		for i, line := range lines {
			if line != lineAt(t, latitude, i-12) {
				t.Error("line", latitude, i-12, line)
			}
			for _, other := range lines[:i] {
				if impl.Cross(line, other) == 0 && impl.Dot(line, other) >= 0 {
					t.Error("same direction", latitude, line, other)
				}
			}
		}
	}
	for _, latitude := range noLyingDials() {
		if lines := impl.LinesOf(latitude); len(lines) != 0 {
			t.Error("other latitude", latitude, lines)
		}
	}
}

func TestP88LinesAreNew(t *testing.T) {
	first := impl.LinesOf(52)
	clear(first)
	if got := impl.LinesOf(52); got[12] != way(0, 1000000) {
		t.Error(got[12])
	}
}

func TestP89TurnedTwiceAPlateIsAsBefore(t *testing.T) {
	for _, w := range append(goingWays(), impl.Way{}) {
		turned := impl.DialTurn(w)
		if turned != way(-w.East, -w.North) || !impl.WayValid(turned) || impl.DialTurn(turned) != w {
			t.Error(w, turned)
		}
	}
	for _, w := range longWays() {
		if got := impl.DialTurn(w); got != (impl.Way{}) {
			t.Error("other way", w, got)
		}
	}
}
