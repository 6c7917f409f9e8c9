package tests

import (
	"math"
	"strings"
	"testing"

	"loop.example/sundials/impl"
)

// eachHour calls f for every latitude at which a lying dial has lines, and every hour.
func eachHour(t *testing.T, f func(latitude, hour int)) {
	t.Helper()
	for latitude := 1; latitude <= 90; latitude++ {
		for hour := -12; hour <= 11; hour++ {
			f(latitude, hour)
		}
		if t.Failed() {
			t.FailNow()
		}
	}
}

// otherHours are hours that no dial has.
func otherHours() []int {
	return []int{math.MinInt, math.MinInt + 12, math.MinInt32, -24, -14, -13, 12, 13, 24, math.MaxInt32, math.MaxInt - 11, math.MaxInt}
}

// noLyingDials are latitudes at which no lying dial has lines.
func noLyingDials() []int {
	return []int{math.MinInt, math.MinInt32, -90, -45, -1, 0, 91, 92, 180, 405, math.MaxInt32, math.MaxInt}
}

// halfDayAway is the hour 12 hours later or earlier.
func halfDayAway(hour int) int {
	if hour < 0 {
		return hour + 12
	}
	return hour - 12
}

func lineAt(t *testing.T, latitude, hour int) impl.Way {
	t.Helper()
	line, ok := impl.LineOf(latitude, hour)
	if !ok {
		t.Fatal("no line", latitude, hour)
	}
	return line
}

// bearing is the angle of a way from the north by the east on.
func bearing(w impl.Way) float64 {
	return around(way(w.North, w.East))
}

// shortest is the shortest way in the same direction.
func shortest(w impl.Way) impl.Way {
	a, b := w.East, w.North
	for b != 0 {
		a, b = b, a%b
	}
	if a < 0 {
		a = -a
	}
	return way(w.East/a, w.North/a)
}

func mark(text string, east, north int) impl.Mark {
	return impl.Mark{At: way(east, north), Text: text}
}

// roundOnce are 28 ways in different directions, from the east by the north, some of them nearly the same.
func roundOnce() []impl.Way {
	list := []impl.Way{way(1, 0), way(1000, 1), way(999, 1), way(3, 1), way(1000, 999), way(5, 5), way(2, 7)}
	for at := 0; len(list) < 28; at++ {
		list = append(list, way(-list[at].North, list[at].East))
	}
	return list
}

// plateAt is a plate with a mark in each of the directions, which are in order; the texts are not.
func plateAt(at ...impl.Way) []impl.Mark {
	var plate []impl.Mark
	for i, w := range at {
		plate = append(plate, impl.Mark{At: w, Text: markText(i)})
	}
	return plate
}

// markText is different for every number in 0..34.
func markText(number int) string {
	const bytes = ":9z0amq"
	return strings.Repeat(bytes[number%7:number%7+1], number/7+1)
}

// eachPlate calls f for valid plates: all those of six directions, some of neighbours on the whole round, and a full one.
func eachPlate(t *testing.T, f func(plate []impl.Mark)) {
	t.Helper()
	all := roundOnce()
	few := []impl.Way{all[0], all[1], all[9], all[14], all[20], all[27]}
	for chosen := range 1 << len(few) {
		var at []impl.Way
		for i, w := range few {
			if chosen>>i&1 == 1 {
				at = append(at, w)
			}
		}
		f(plateAt(at...))
	}
	for from := range all {
		for to := from + 1; to <= min(from+3, len(all)); to++ {
			f(plateAt(all[from:to]...))
		}
	}
	f(plateAt(all[:24]...))
	f(plateAt(all[4:]...))
}

// otherMarks are marks of no valid plate: with a direction that is none, or a text that is none.
func otherMarks() []impl.Mark {
	var list []impl.Mark
	for _, w := range noWays() {
		list = append(list, impl.Mark{At: w, Text: "new"})
	}
	for _, s := range otherTexts() {
		list = append(list, impl.Mark{At: way(-5, 3), Text: s})
	}
	return list
}

// otherTexts are texts of no mark.
func otherTexts() []string {
	return []string{"", "abcdef", "123456", "::::::", " ", "a b", "a ", " a", "A", "xiI", "10.30", "10;30", "10=30", "10,3", "-1", "a/b", "`", "{", "a\n", "\x00", "a\x80", "\xff", "é", "ａ", "٣", strings.Repeat("a", 1000)}
}

// otherPlates are plates that are not valid, each for one reason.
func otherPlates() [][]impl.Mark {
	whole := plateAt(roundOnce()...)
	list := [][]impl.Mark{
		whole, whole[:25], whole[3:],
		{mark("a", 0, 1), mark("b", 1, 1)},
		{mark("a", 1, 0), mark("b", 0, -1), mark("c", -1, 0)},
		{mark("a", 1, -1), mark("b", 1, 0)},
		{mark("a", 1, 1), mark("b", 1, 1)},
		{mark("a", 1, 2), mark("b", 500, 1000), mark("c", -1, 0)},
		{mark("a", 1, 0), mark("b", 0, -2), mark("c", 0, -1)},
		{mark("a", 1, 0), mark("a", 1, 1)},
		{mark("a", 1, 0), mark("b", 1, 1), mark("a", 0, 1)},
		{mark("b", 1, 0), mark("a", 1, 1), mark("c", 0, 1), mark("a", 0, -1)},
		{mark("a", 1, 1), mark("b", 0, 1), mark("c", 1, 1)},
	}
	for _, m := range otherMarks() {
		list = append(list, []impl.Mark{m}, []impl.Mark{mark("a", 1, 0), m}, []impl.Mark{m, mark("b", 0, -1)})
	}
	return list
}
