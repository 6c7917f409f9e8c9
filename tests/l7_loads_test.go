package tests

import (
	"slices"
	"testing"

	"loop.example/sundials/impl"
)

// someLoads are up to seven loads: none, with one hour or with all, in the same hours, one within the other, at both ends of the day, and mixed ones.
func someLoads() [][]impl.Load {
	list := [][]impl.Load{
		{load(0, 1), load(0, 0), load(1, 1), load(5, 9)}, {load(0, 9)}, {load(9, 9)}, {load(0, 0), load(9, 9)}, {load(0, 9), load(0, 0), load(9, 9)},
		{load(0, 9), load(1, 8), load(2, 7), load(3, 6), load(4, 5), load(4, 4), load(5, 5)}, {load(0, 3), load(1, 2), load(1, 2), load(1, 1), load(2, 2), load(0, 1), load(2, 3)},
		{load(3, 4), load(3, 3), load(3, 5), load(4, 4), load(3, 3)}, {load(7, 9), load(8, 9), load(9, 9), load(9, 9), load(7, 8)},
	}
	eachListOf([]impl.Load{load(0, 0), load(1, 1), load(0, 1), load(1, 2), load(0, 2)}, 4, func(loads []impl.Load) {
		list = append(list, loads)
	})
	for many := range 8 {
		for hour := range 10 {
			list = append(list, slices.Repeat([]impl.Load{load(hour, hour)}, many))
		}
		list = append(list, slices.Repeat([]impl.Load{load(0, 9)}, many), slices.Repeat([]impl.Load{load(4, 5)}, many), slices.Repeat([]impl.Load{load(8, 9)}, many))
		for seed := range 60 {
			var loads []impl.Load
			for i := range many {
				// Some have hours that are close together, others have many.
				first := mixed(seed+many*100, i, 4+seed%7)
				loads = append(loads, load(first, min(first+mixed(seed+many*100, i+50, 1+seed%4), 9)))
			}
			list = append(list, loads)
		}
	}
	return list
}

// otherLoads are loads that are not valid, each for one reason.
func otherLoads() [][]impl.Load {
	fine := load(2, 5)
	list := [][]impl.Load{slices.Repeat([]impl.Load{fine}, 8), make([]impl.Load, 8), slices.Repeat([]impl.Load{fine}, 1000)}
	wrong := []impl.Load{load(1, 0), load(5, 4), load(9, 0), load(9, 8), load(0, -1), load(-1, -1), load(-1, 0), load(-1, 9), load(0, 10), load(9, 10), load(10, 10), load(10, 9)}
	for _, n := range otherFrom(0, 9) {
		wrong = append(wrong, load(n, 5), load(2, n), load(n, n))
	}
	for _, one := range wrong {
		list = append(list, []impl.Load{one}, []impl.Load{one, fine}, []impl.Load{fine, one}, append(slices.Repeat([]impl.Load{fine}, 6), one))
	}
	return list
}

// peakOf is the greatest number of hours of a list that are the same.
func peakOf(hours []int) int {
	most := 0
	for _, hour := range hours {
		same := 0
		for _, other := range hours {
			if other == hour {
				same++
			}
		}
		most = max(most, same)
	}
	return most
}

// eachPut calls f with every way to put loads into hours.
func eachPut(loads []impl.Load, f func(hours []int)) {
	hours := make([]int, len(loads))
	var from func(i int)
	from = func(i int) {
		if i == len(loads) {
			f(hours)
			return
		}
		for hours[i] = loads[i].First; hours[i] <= loads[i].Last; hours[i]++ {
			from(i + 1)
		}
	}
	from(0)
}

// fewWays reports whether there are not too many ways to put loads into hours.
func fewWays(loads []impl.Load) bool {
	ways := 1
	for _, one := range loads {
		ways *= one.Last - one.First + 1
	}
	return ways <= 3000
}

// boundOf is the least number of loads in an hour with which each stretch has room for the loads that have all their hours in it.
func boundOf(loads []impl.Load) int {
	bound := 0
	for first := range 10 {
		room, within := 0, 0
		for last := first; last < 10; last++ {
			room++
			within = 0
			for _, one := range loads {
				if one.First >= first && one.Last <= last {
					within++
				}
			}
			for bound*room < within {
				bound++
			}
		}
	}
	return bound
}

// hoursByTurns puts loads into hours as the document tells it: in each hour the loads that wait are taken one by one; false if one of them is too late.
func hoursByTurns(loads []impl.Load, most int) ([]int, bool) {
	put := map[int]int{}
	for hour := range 10 {
		for range most {
			next := -1
			for i, one := range loads {
				if _, done := put[i]; !done && one.First <= hour && (next < 0 || one.Last < loads[next].Last) {
					next = i
				}
			}
			if next >= 0 {
				put[next] = hour
			}
		}
	}
	var hours []int
	for i, one := range loads {
		hour, done := put[i]
		if !done || hour > one.Last {
			return nil, false
		}
		hours = append(hours, hour)
	}
	return hours, true
}

func TestP33NoWayToPutLoadsHasALesserPeak(t *testing.T) {
	for _, loads := range someLoads() {
		if !fewWays(loads) {
			continue
		}
		kept := slices.Clone(loads)
		least, bound, reached := impl.LoadsLeast(loads), impl.LoadsBound(loads), false
		eachPut(loads, func(hours []int) {
			peak := impl.LoadsPeak(loads, hours)
			if peak != peakOf(hours) || peak < least || peak < bound {
				t.Error("lesser peak", loads, hours, peak, least, bound)
			}
			reached = reached || peak == least
		})
		if !reached {
			t.Error("no way has this peak", loads, least)
		}
		if !slices.Equal(loads, kept) {
			t.Fatal("changed", kept, loads)
		}
	}
}

func TestP33KnownPeaks(t *testing.T) {
	loads := []impl.Load{load(0, 1), load(0, 0), load(1, 1), load(5, 9)}
	for _, known := range []struct {
		hours []int
		want  int
	}{
		{[]int{1, 0, 1, 7}, 2}, {[]int{0, 0, 1, 5}, 2}, {[]int{0, 0, 1, 9}, 2}, {[]int{2, 0, 1, 7}, -1}, {[]int{1, 1, 1, 7}, -1}, {[]int{1, 0, 0, 7}, -1}, {[]int{1, 0, 1, 4}, -1}, {[]int{1, 0, 1, 10}, -1}, {[]int{-1, 0, 1, 7}, -1},
		{nil, -1}, {[]int{1}, -1}, {[]int{1, 0, 1}, -1}, {[]int{1, 0, 1, 7, 0}, -1}, {[]int{1, 0, 1, 7, 7, 7}, -1},
	} {
		kept := slices.Clone(known.hours)
		if got := impl.LoadsPeak(loads, known.hours); got != known.want {
			t.Error(known, got)
		}
		if !slices.Equal(known.hours, kept) {
			t.Error("changed", known, kept)
		}
	}
	if impl.LoadsPeak(nil, nil) != 0 || impl.LoadsPeak([]impl.Load{}, []int{}) != 0 || impl.LoadsPeak(nil, []int{0}) != -1 || impl.LoadsPeak([]impl.Load{load(3, 3)}, []int{3}) != 1 || impl.LoadsPeak(slices.Repeat([]impl.Load{load(9, 9)}, 7), slices.Repeat([]int{9}, 7)) != 7 {
		t.Error("none, one and all")
	}
}

func TestP33OtherHoursHaveNoPeak(t *testing.T) {
	for _, loads := range someLoads() {
		for i, one := range loads {
			for _, hour := range otherFrom(one.First, one.Last) {
				hours := make([]int, len(loads))
				for j := range loads {
					hours[j] = loads[j].First
				}
				hours[i] = hour
				if got := impl.LoadsPeak(loads, hours); (hour < one.First || hour > one.Last) && got != -1 {
					t.Error("other hour", loads, hours, got)
				}
			}
		}
	}
	for _, loads := range otherLoads() {
		hours := make([]int, len(loads))
		for i, one := range loads {
			hours[i] = one.First
		}
		if impl.LoadsPeak(loads, hours) != -1 || impl.LoadsPeak(loads, nil) != -1 {
			t.Error("other loads", loads)
		}
	}
}

func TestP34TheLeastPeakIsTheGreatestBound(t *testing.T) {
	for _, loads := range someLoads() {
		least, bound := impl.LoadsLeast(loads), impl.LoadsBound(loads)
		if least != bound || bound != boundOf(loads) {
			t.Error("least", loads, least, bound, boundOf(loads))
		}
	}
	for _, known := range []struct {
		loads []impl.Load
		want  int
	}{
		{nil, 0}, {[]impl.Load{load(0, 0)}, 1}, {[]impl.Load{load(9, 9)}, 1}, {[]impl.Load{load(0, 9)}, 1}, {slices.Repeat([]impl.Load{load(4, 4)}, 7), 7}, {slices.Repeat([]impl.Load{load(9, 9)}, 7), 7}, {slices.Repeat([]impl.Load{load(0, 9)}, 7), 1},
		{slices.Repeat([]impl.Load{load(8, 9)}, 7), 4}, {slices.Repeat([]impl.Load{load(3, 4)}, 6), 3}, {slices.Repeat([]impl.Load{load(0, 2)}, 7), 3}, {slices.Repeat([]impl.Load{load(0, 2)}, 6), 2},
		{[]impl.Load{load(0, 1), load(0, 0), load(1, 1), load(5, 9)}, 2}, {[]impl.Load{load(0, 0), load(1, 1), load(0, 0)}, 2}, {[]impl.Load{load(0, 1), load(1, 2), load(0, 2)}, 1},
	} {
		if impl.LoadsLeast(known.loads) != known.want || impl.LoadsBound(known.loads) != known.want {
			t.Error(known, impl.LoadsLeast(known.loads), impl.LoadsBound(known.loads))
		}
	}
	for _, loads := range otherLoads() {
		if impl.LoadsLeast(loads) != -1 || impl.LoadsBound(loads) != -1 {
			t.Error("other loads", loads)
		}
	}
}

func TestP131LoadsCanBeLeftOut(t *testing.T) {
	if !impl.LoadsValid(nil) || !impl.LoadsValid([]impl.Load{}) {
		t.Error("without loads")
	}
	for _, loads := range someLoads() {
		if !impl.LoadsValid(loads) {
			t.Error("valid", loads)
		}
		for i, one := range loads {
			if !impl.LoadsValid(loads[1:]) || !impl.LoadsValid(slices.Delete(slices.Clone(loads), i, i+1)) {
				t.Error("a load less", loads, i)
			}
			for _, other := range []impl.Load{load(one.Last+1, one.Last), load(-1, one.Last), load(one.First, 10), load(one.First, one.First-1)} {
				changed := slices.Clone(loads)
				changed[i] = other
				if impl.LoadsValid(changed) {
					t.Error("other load", changed)
				}
			}
		}
	}
	for first := -3; first <= 13; first++ {
		for last := -3; last <= 13; last++ {
			if impl.LoadsValid([]impl.Load{load(first, last)}) != (first >= 0 && first <= last && last <= 9) {
				t.Error("one load", first, last)
			}
		}
	}
	for many := range 20 {
		if impl.LoadsValid(make([]impl.Load, many)) != (many <= 7) {
			t.Error("loads", many)
		}
	}
	for _, loads := range otherLoads() {
		if impl.LoadsValid(loads) {
			t.Error("other loads", loads)
		}
	}
}

func TestP132WhoEndsFirstIsFirst(t *testing.T) {
	for _, loads := range someLoads() {
		kept := slices.Clone(loads)
		before := false
		for most := 1; most <= 7; most++ {
			hours, ok := impl.LoadsWith(loads, most)
			want, goes := hoursByTurns(loads, most)
			if ok != goes || !slices.Equal(hours, want) {
				t.Error("by turns", loads, most, hours, ok, want)
			}
			if ok && (impl.LoadsPeak(loads, hours) > most || peakOf(hours) > most) || before && !ok || ok != (most >= boundOf(loads)) {
				t.Error("with so many", loads, most, hours, ok)
			}
			before = ok
			for i := range hours {
				hours[i] = -9
			}
			if again, _ := impl.LoadsWith(loads, most); slices.Contains(again, -9) || !slices.Equal(loads, kept) {
				t.Fatal("shares memory", kept, loads, again)
			}
		}
	}
}

func TestP132KnownHours(t *testing.T) {
	loads := []impl.Load{load(0, 1), load(0, 0), load(1, 1), load(5, 9)}
	for _, known := range []struct {
		loads []impl.Load
		most  int
		want  []int
	}{
		{loads, 2, []int{0, 0, 1, 5}}, {loads, 7, []int{0, 0, 1, 5}}, {[]impl.Load{load(9, 9)}, 1, []int{9}}, {[]impl.Load{load(0, 0)}, 1, []int{0}}, {[]impl.Load{load(4, 4), load(4, 4)}, 2, []int{4, 4}},
		// The one that ends first, and of several the first one; the others wait.
		{[]impl.Load{load(0, 9), load(0, 3), load(0, 3)}, 1, []int{2, 0, 1}}, {[]impl.Load{load(0, 3), load(0, 9), load(0, 3)}, 2, []int{0, 1, 0}}, {[]impl.Load{load(0, 5), load(1, 2), load(1, 2), load(0, 5)}, 1, []int{0, 1, 2, 3}}, {slices.Repeat([]impl.Load{load(3, 9)}, 7), 3, []int{3, 3, 3, 4, 4, 4, 5}}, {slices.Repeat([]impl.Load{load(3, 9)}, 7), 1, []int{3, 4, 5, 6, 7, 8, 9}},
	} {
		if got, ok := impl.LoadsWith(known.loads, known.most); !ok || !slices.Equal(got, known.want) {
			t.Error(known, got, ok)
		}
	}
	for most := 1; most <= 7; most++ {
		if got, ok := impl.LoadsWith(nil, most); !ok || len(got) != 0 {
			t.Error("no loads", most, got, ok)
		}
	}
}

func TestP132LoadsThatCannotBePut(t *testing.T) {
	refused := func(loads []impl.Load, most int) {
		t.Helper()
		if got, ok := impl.LoadsWith(loads, most); ok || len(got) != 0 {
			t.Error("put", loads, most, got, ok)
		}
	}
	for _, loads := range [][]impl.Load{{load(0, 1), load(0, 0), load(1, 1), load(5, 9)}, {load(0, 0), load(0, 0)}, {load(9, 9), load(9, 9)}, {load(8, 9), load(8, 9), load(8, 9)}} {
		refused(loads, 1)
	}
	refused(slices.Repeat([]impl.Load{load(9, 9)}, 7), 6)
	refused(slices.Repeat([]impl.Load{load(3, 4)}, 7), 3)
	for _, most := range otherFrom(1, 7) {
		for _, loads := range [][]impl.Load{nil, {}, {load(0, 0)}, {load(0, 9), load(3, 4)}} {
			refused(loads, most)
		}
	}
	for _, loads := range otherLoads() {
		for most := 0; most <= 8; most++ {
			refused(loads, most)
		}
	}
}

func TestP133ALoadLessIsNeverAGreaterBound(t *testing.T) {
	for _, loads := range someLoads() {
		bound := impl.LoadsBound(loads)
		if bound < 0 || bound > len(loads) || len(loads) > 0 && bound == 0 {
			t.Error("bound", loads, bound)
		}
		for i := range loads {
			fewer := slices.Delete(slices.Clone(loads), i, i+1)
			if less := impl.LoadsBound(fewer); less != bound && less != bound-1 || less != boundOf(fewer) {
				t.Error("a load less", loads, i, bound, less)
			}
		}
	}
}
