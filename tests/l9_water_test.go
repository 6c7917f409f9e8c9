package tests

import (
	"math"
	"slices"
	"testing"

	"loop.example/sundials/impl"
)

// watered is a bed that is so wet at first, is watered up to some wetness, and of which each day takes something.
type watered struct {
	wet, full int
	takes     []int
}

// someWatered are beds that are dry or wet at first, watered up to little or much, on no days or on many, that take nothing, all, or something.
func someWatered() []watered {
	var list []watered
	for _, wet := range []int{0, 1, 9, 10, 15, 16, 17, 49, 50} {
		for _, full := range []int{16, 17, 20, 31, 50} {
			eachListOf([]int{0, 1, 9, 16}, 3, func(takes []int) {
				list = append(list, watered{wet, full, takes})
			})
			for seed := range 12 {
				var takes []int
				for i := range 4 + seed%5 {
					takes = append(takes, mixed(seed, i, []int{4, 10, 17}[seed%3]))
				}
				list = append(list, watered{wet, full, takes}, watered{wet, full, slices.Repeat([]int{16 - seed}, 7)})
			}
		}
	}
	return list
}

// eachWatered calls f for some beds.
func eachWatered(t *testing.T, f func(w watered)) {
	t.Helper()
	for _, w := range someWatered() {
		kept := slices.Clone(w.takes)
		f(w)
		if !slices.Equal(w.takes, kept) {
			t.Error("changed", kept, w)
		}
		if t.Failed() {
			t.FailNow()
		}
	}
}

// otherWatered are beds that are not valid, each for one reason.
func otherWatered() []watered {
	var list []watered
	for _, takes := range [][]int{nil, {0}, {16, 3}, {6, 5, 9, 7}} {
		for _, n := range otherFrom(0, 50) {
			list = append(list, watered{n, 20, takes}, watered{n, n, takes})
		}
		for _, n := range append(otherFrom(16, 50), 0, 1, 15, -16) {
			list = append(list, watered{10, n, takes}, watered{50, n, takes})
		}
	}
	for _, n := range otherFrom(0, 16) {
		for _, takes := range [][]int{{n}, {n, 0}, {0, n}, {16, 16, n, 16}, append(make([]int, 100), n)} {
			list = append(list, watered{10, 20, takes}, watered{50, 50, takes}, watered{0, 16, takes})
		}
	}
	return append(list, watered{math.MaxInt, math.MinInt, []int{math.MaxInt}}, watered{0, 16, []int{17}}, watered{50, 50, []int{20}})
}

// run waters a bed when the sum of what was taken since it was watered last is more than it had then.
func (w watered) run() (list []int, many int) {
	had, from := w.wet, 0
	taken := func(to int) int {
		sum := 0
		for _, take := range w.takes[from : to+1] {
			sum += take
		}
		return sum
	}
	for day := range w.takes {
		if taken(day) > had {
			had, from = w.full, day
			many++
		}
		list = append(list, had-taken(day))
	}
	return list, many
}

// staysWet pours and takes drop by drop.
func (w watered) staysWet(days []bool) bool {
	wet := w.wet
	for day, take := range w.takes {
		for days[day] && wet < w.full {
			wet++
		}
		for range take {
			if wet == 0 {
				return false
			}
			wet--
		}
	}
	return true
}

// eachDays calls f with every choice of so many days, and how many are chosen.
func eachDays(many int, f func(days []bool, chosen int)) {
	for set := range 1 << many {
		days, chosen := make([]bool, many), 0
		for day := range days {
			if set>>day&1 == 1 {
				days[day] = true
				chosen++
			}
		}
		f(days, chosen)
	}
}

func TestP43NoWayToWaterNeedsFewerDays(t *testing.T) {
	eachWatered(t, func(w watered) {
		_, fewest := impl.WaterRun(w.wet, w.full, w.takes)
		reached := false
		eachDays(len(w.takes), func(days []bool, chosen int) {
			kept := slices.Clone(days)
			ok := impl.WaterOk(w.wet, w.full, w.takes, days)
			if ok != w.staysWet(days) {
				t.Error("drop by drop", w, days, ok)
			}
			if ok && chosen < fewest || !ok && chosen == len(days) {
				t.Error("fewer days, or dry though watered every day", w, days, fewest)
			}
			reached = reached || ok && chosen == fewest
			if !slices.Equal(days, kept) {
				t.Error("changed", kept, days)
			}
		})
		if !reached {
			t.Error("no way has so few days", w, fewest)
		}
	})
}

func TestP43TheDaysOfTheRunAreEnough(t *testing.T) {
	eachWatered(t, func(w watered) {
		run, many := impl.WaterRun(w.wet, w.full, w.takes)
		days, chosen, wet := make([]bool, len(run)), 0, w.wet
		for day, left := range run {
			if wet < w.takes[day] {
				days[day] = true
				chosen++
			}
			wet = left
		}
		if !impl.WaterOk(w.wet, w.full, w.takes, days) || chosen != many {
			t.Error("days of the run", w, days, many)
		}
	})
}

func TestP43KnownDays(t *testing.T) {
	for _, known := range []struct {
		w    watered
		days []bool
		want bool
	}{
		{watered{10, 20, []int{6, 5, 9, 7}}, []bool{true, false, false, true}, true}, {watered{10, 20, []int{6, 5, 9, 7}}, []bool{false, true, false, true}, true}, {watered{10, 20, []int{6, 5}}, []bool{false, false}, false}, {watered{10, 20, []int{6, 5}}, []bool{false, true}, true}, {watered{10, 20, []int{6, 5}}, []bool{true, false}, true},
		{watered{0, 16, nil}, nil, true}, {watered{0, 16, []int{0}}, []bool{false}, true}, {watered{0, 16, []int{1}}, []bool{false}, false}, {watered{0, 16, []int{16}}, []bool{true}, true}, {watered{0, 16, []int{16, 1}}, []bool{true, false}, false}, {watered{16, 16, []int{16, 16}}, []bool{false, true}, true}, {watered{15, 16, []int{16}}, []bool{false}, false},
		// Watering does not make a wetter bed drier, nor pour on top of what is there.
		{watered{50, 16, []int{16, 16, 16}}, []bool{true, false, false}, true}, {watered{50, 16, []int{16, 16, 16, 3}}, []bool{true, true, true, false}, false}, {watered{50, 16, []int{16, 16, 16, 16}}, []bool{true, true, true, true}, true}, {watered{10, 16, []int{16, 1}}, []bool{true, false}, false}, {watered{16, 20, []int{16, 5}}, []bool{true, false}, false}, {watered{17, 20, []int{4, 16, 1}}, []bool{true, false, false}, false},
	} {
		if got := impl.WaterOk(known.w.wet, known.w.full, known.w.takes, known.days); got != known.want {
			t.Error(known, got)
		}
	}
}

func TestP43OtherBedsAreNotWatered(t *testing.T) {
	for _, w := range otherWatered() {
		for _, days := range [][]bool{make([]bool, len(w.takes)), slices.Repeat([]bool{true}, len(w.takes)), nil} {
			if impl.WaterOk(w.wet, w.full, w.takes, days) {
				t.Error("other bed", w, days)
			}
		}
	}
	for many := range 12 {
		for entries := range 12 {
			for _, day := range []bool{false, true} {
				if impl.WaterOk(50, 50, make([]int, many), slices.Repeat([]bool{day}, entries)) != (many == entries) {
					t.Error("entries", many, entries, day)
				}
			}
		}
	}
}

func TestP157ABedIsNeverDry(t *testing.T) {
	eachWatered(t, func(w watered) {
		run, many := impl.WaterRun(w.wet, w.full, w.takes)
		if list, times := w.run(); !slices.Equal(run, list) || many != times {
			t.Error("by sums", w, run, many)
			return
		}
		before := w.wet
		for day, left := range run {
			take := w.takes[day]
			if left < 0 || left != before-take && left != w.full-take {
				t.Error("dry", w, run, day)
			}
			before = left
		}
		for day := range run {
			run[day] = -9
		}
		if again, _ := impl.WaterRun(w.wet, w.full, w.takes); slices.Contains(again, -9) {
			t.Error("shares memory", w, again)
		}
	})
}

func TestP157KnownRuns(t *testing.T) {
	for _, known := range []struct {
		w    watered
		want []int
		many int
	}{
		{watered{10, 20, []int{6, 5, 9, 7}}, []int{4, 15, 6, 13}, 2}, {watered{0, 16, nil}, nil, 0}, {watered{50, 50, []int{}}, nil, 0}, {watered{0, 16, []int{0, 0}}, []int{0, 0}, 0}, {watered{0, 16, []int{1}}, []int{15}, 1}, {watered{0, 16, []int{16, 16}}, []int{0, 0}, 2},
		// Nothing may be left at the end of a day, and a bed that is wetter than one that was watered is left alone.
		{watered{6, 20, []int{6, 1}}, []int{0, 19}, 1}, {watered{5, 20, []int{6}}, []int{14}, 1}, {watered{50, 16, []int{16, 16, 16, 2, 1}}, []int{34, 18, 2, 0, 15}, 1}, {watered{50, 16, []int{16, 16, 16, 3}}, []int{34, 18, 2, 13}, 1}, {watered{50, 50, []int{0, 16}}, []int{50, 34}, 0}, {watered{15, 50, []int{16, 16, 16, 3}}, []int{34, 18, 2, 47}, 2},
	} {
		if got, many := impl.WaterRun(known.w.wet, known.w.full, known.w.takes); !slices.Equal(got, known.want) || many != known.many {
			t.Error(known, got, many)
		}
	}
	// The document sets no bound for the number of days.
	run, many := impl.WaterRun(16, 16, slices.Repeat([]int{16}, 1000))
	if !slices.Equal(run, make([]int, 1000)) || many != 999 || !impl.WaterOk(16, 16, make([]int, 1000), make([]bool, 1000)) {
		t.Error("a thousand days", run, many)
	}
	for _, w := range otherWatered() {
		if list, many := impl.WaterRun(w.wet, w.full, w.takes); len(list) != 0 || many != 0 {
			t.Error("other bed", w, list, many)
		}
	}
}
