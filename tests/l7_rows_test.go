package tests

import (
	"math"
	"slices"
	"testing"

	"loop.example/sundials/impl"
)

func TestP30NoPlacesAreWorthMore(t *testing.T) {
	for _, row := range someValues() {
		kept := slices.Clone(row)
		most, reached := impl.RowMost(row), false
		for _, set := range apartIn(len(row)) {
			places := placesIn(set)
			sum := impl.RowSum(row, places)
			if sum != worth(row, places) || sum > most {
				t.Error("worth more", row, places, sum, most)
			}
			reached = reached || sum == most
		}
		if !reached {
			t.Error("no places have so much", row, most)
		}
		if !slices.Equal(row, kept) {
			t.Fatal("changed", kept, row)
		}
	}
}

func TestP30KnownSums(t *testing.T) {
	row := []int{5, 9, 6, 1, 4}
	for _, list := range []struct {
		used []int
		want int
	}{
		{nil, 0}, {[]int{}, 0}, {[]int{0}, 5}, {[]int{4}, 4}, {[]int{1, 4}, 13}, {[]int{0, 2, 4}, 15}, {[]int{1, 3}, 10},
		{[]int{0, 1}, -1}, {[]int{4, 0}, -1}, {[]int{2, 2}, -1}, {[]int{5}, -1}, {[]int{-1}, -1}, {[]int{0, 2, 5}, -1}, {[]int{math.MinInt, 0}, -1},
	} {
		if got := impl.RowSum(row, list.used); got != list.want {
			t.Error(list, got)
		}
	}
	for _, other := range otherValues() {
		if impl.RowSum(other, nil) != -1 || impl.RowSum(other, []int{0}) != -1 || impl.RowMost(other) != -1 {
			t.Error("other row", other)
		}
	}
}

func TestP123RowsCanBeShorter(t *testing.T) {
	if !impl.RowValid(nil) || !impl.RowValid([]int{}) {
		t.Error("without places")
	}
	for _, row := range someValues() {
		if !impl.RowValid(row) || len(row) > 0 && !impl.RowValid(row[1:]) {
			t.Error("valid", row)
		}
		for i := range row {
			for _, value := range []int{-1, -50, 51, 100} {
				other := slices.Clone(row)
				other[i] = value
				if impl.RowValid(other) {
					t.Error("other value", other)
				}
			}
		}
	}
	for value := -60; value <= 110; value++ {
		if impl.RowValid([]int{value}) != (value >= 0 && value <= 50) {
			t.Error("one place", value)
		}
	}
	for long := range 20 {
		if impl.RowValid(make([]int, long)) != (long <= 10) {
			t.Error("places", long)
		}
	}
	for _, row := range otherValues() {
		if impl.RowValid(row) {
			t.Error("other row", row)
		}
	}
}

func TestP124FewerPlacesMayBeUsedToo(t *testing.T) {
	for long := range 11 {
		row := slices.Repeat([]int{3}, long)
		for set := range 1 << long {
			used := placesIn(set)
			kept := slices.Clone(used)
			if impl.RowOk(row, used) != (set&(set>>1) == 0) {
				t.Error("places", row, used)
			}
			if len(used) == 0 || set&(set>>1) != 0 {
				continue
			}
			last := used[len(used)-1]
			if !impl.RowOk(row, used[1:]) || impl.RowOk(row, append(slices.Clone(used), last+1)) || impl.RowOk(row, append(slices.Clone(used), last)) {
				t.Error("one more or less", row, used)
			}
			slices.Reverse(used)
			if impl.RowOk(row, used) != (len(used) == 1) {
				t.Error("backwards", row, used)
			}
			slices.Reverse(used)
			if !slices.Equal(used, kept) {
				t.Fatal("changed", used, kept)
			}
		}
	}
}

func TestP124OtherPlacesMayNotBeUsed(t *testing.T) {
	for _, row := range [][]int{nil, {7}, {0}, {5, 9, 6}, {1, 2, 3, 4, 5, 6, 7, 8, 9, 10}} {
		for _, n := range otherFrom(0, len(row)-1) {
			for _, used := range [][]int{{n}, {n, 0}, {0, n}, {n, len(row) - 1}, {0, 2, n}, {n, n}, {n, n + 2}} {
				if impl.RowOk(row, used) {
					t.Error("other place", row, used)
				}
			}
		}
		// A difference that does not fit wraps round.
		for _, used := range [][]int{{math.MinInt, math.MaxInt}, {math.MaxInt, math.MinInt}, {math.MinInt + 1, 0, math.MaxInt}, {0, math.MinInt, 0}, slices.Repeat([]int{0}, 100)} {
			if impl.RowOk(row, used) {
				t.Error("far places", row, used)
			}
		}
	}
	for _, row := range otherValues() {
		if impl.RowOk(row, nil) || impl.RowOk(row, []int{}) || impl.RowOk(row, []int{0}) {
			t.Error("other row", row)
		}
	}
}

func TestP125TheMostIsAtLeastAHalf(t *testing.T) {
	for _, row := range someValues() {
		most, sum := impl.RowMost(row), 0
		for _, value := range row {
			sum += value
		}
		back := slices.Clone(row)
		slices.Reverse(back)
		if 2*most < sum || most > sum || impl.RowMost(back) != most {
			t.Error("a half", row, most, sum)
		}
		if len(row) > 0 && impl.RowMost(row[1:]) > most {
			t.Error("without its first place", row, most)
		}
	}
	for _, known := range []struct {
		row  []int
		want int
	}{
		{nil, 0}, {[]int{0}, 0}, {[]int{7}, 7}, {[]int{50}, 50}, {[]int{3, 4}, 4}, {[]int{4, 3}, 4}, {[]int{3, 5, 3}, 6}, {[]int{3, 7, 3}, 7}, {[]int{5, 9, 6, 1, 4}, 15}, {[]int{9, 1, 1, 9}, 18}, {slices.Repeat([]int{50}, 10), 250}, {make([]int, 10), 0},
	} {
		if got := impl.RowMost(known.row); got != known.want {
			t.Error(known, got)
		}
	}
}

// firstUsed are the places with the greatest sum of which, at the first place that not both use, no others use it.
func firstUsed(row []int) []int {
	var best []int
	most := -1
	rank := func(places []int) int {
		sum := 0
		for _, place := range places {
			sum += 1 << (10 - place)
		}
		return sum
	}
	for _, set := range apartIn(len(row)) {
		places := placesIn(set)
		sum := worth(row, places)
		if sum > most || sum == most && rank(places) > rank(best) {
			most, best = sum, places
		}
	}
	return best
}

func TestP126TheBestPlacesMayBeUsed(t *testing.T) {
	for _, row := range someValues() {
		kept := slices.Clone(row)
		best := impl.RowBest(row)
		if !impl.RowOk(row, best) || impl.RowSum(row, best) != impl.RowMost(row) {
			t.Error("sum", row, best)
		}
		if want := firstUsed(row); !slices.Equal(best, want) {
			t.Error("from the first place on", row, best, want)
		}
		for i := range best {
			best[i] = -9
		}
		best = append(best, -9)
		if !slices.Equal(row, kept) || slices.Contains(impl.RowBest(row), -9) {
			t.Fatal("shares memory", kept, row, best)
		}
	}
}

func TestP126KnownPlaces(t *testing.T) {
	for _, known := range []struct{ row, want []int }{
		{nil, nil}, {[]int{7}, []int{0}}, {[]int{0}, []int{0}}, {[]int{5, 9, 6, 1, 4}, []int{0, 2, 4}}, {[]int{3, 7, 3}, []int{1}}, {[]int{0, 5}, []int{1}}, {[]int{5, 0}, []int{0}},
		// Among equal sums the earlier place is used, and one without a value, too.
		{[]int{4, 4}, []int{0}}, {[]int{4, 8, 4}, []int{0, 2}}, {[]int{0, 0, 0}, []int{0, 2}}, {[]int{5, 0, 0, 0}, []int{0, 2}}, {[]int{0, 0, 5, 0}, []int{0, 2}}, {[]int{0, 5, 0, 0}, []int{1, 3}}, {[]int{2, 2, 2, 2}, []int{0, 2}}, {[]int{1, 3, 3, 1}, []int{0, 2}},
		{slices.Repeat([]int{50}, 10), []int{0, 2, 4, 6, 8}}, {make([]int, 9), []int{0, 2, 4, 6, 8}},
	} {
		if got := impl.RowBest(known.row); !slices.Equal(got, known.want) {
			t.Error(known, got)
		}
	}
	for _, row := range otherValues() {
		if got := impl.RowBest(row); len(got) != 0 {
			t.Error("other row", row, got)
		}
	}
}
