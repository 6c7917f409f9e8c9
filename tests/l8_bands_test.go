package tests

import (
	"math"
	"slices"
	"testing"

	"loop.example/sundials/impl"
)

func TestP35ABlindMovesAsOftenAsTheLightGoesThroughTheBand(t *testing.T) {
	eachBandRun(t, func(shut bool, b impl.Band, lights []int) {
		run, crosses := impl.BandRun(shut, b, lights), impl.BandCrosses(shut, b, lights)
		if !slices.Equal(run, shutBehindEach(shut, b, lights)) {
			t.Error("run", shut, b, lights, run)
		}
		if moves := impl.Changes(shut, run); moves != crosses || crosses != crossesByEnds(shut, b, lights) {
			t.Error("moves", shut, b, lights, moves, crosses)
		}
		for _, wider := range []impl.Band{band(b.Low-1, b.High+1), band(max(b.Low-1, 0), min(b.High+1, 100))} {
			if impl.BandValid(wider) && (impl.BandCrosses(shut, wider, lights) > crosses || impl.Changes(shut, impl.BandRun(shut, wider, lights)) > crosses) {
				t.Error("wider", shut, b, lights, crosses)
			}
		}
		for i := range run {
			run[i] = !run[i]
		}
		if again := impl.BandRun(shut, b, lights); !slices.Equal(again, shutBehindEach(shut, b, lights)) {
			t.Error("shares memory", shut, b, lights, again)
		}
	})
}

func TestP35KnownCrosses(t *testing.T) {
	b := band(30, 60)
	for _, known := range []struct {
		shut   bool
		lights []int
		want   []bool
		moves  int
	}{
		{false, nil, nil, 0}, {true, nil, nil, 0},
		{false, []int{50, 70, 40, 65, 20, 59, 60}, []bool{false, true, true, true, false, false, true}, 3}, {true, []int{50, 70, 40, 65, 20, 59, 60}, []bool{true, true, true, true, false, false, true}, 2},
		// At a bound, and just beside it.
		{false, []int{60}, []bool{true}, 1}, {false, []int{59}, []bool{false}, 0}, {false, []int{30}, []bool{false}, 0}, {false, []int{31}, []bool{false}, 0}, {true, []int{60}, []bool{true}, 0}, {true, []int{59}, []bool{true}, 0}, {true, []int{30}, []bool{false}, 1}, {true, []int{31}, []bool{true}, 0},
		{false, []int{60, 30, 60, 30}, []bool{true, false, true, false}, 4}, {true, []int{60, 30, 60, 30}, []bool{true, false, true, false}, 3}, {false, []int{59, 31, 60, 31, 59, 30, 31}, []bool{false, false, true, true, true, false, false}, 2},
		{false, []int{0, 100, 0, 100}, []bool{false, true, false, true}, 3}, {true, []int{0, 0, 0}, []bool{false, false, false}, 1}, {false, []int{100, 100, 100}, []bool{true, true, true}, 1},
	} {
		run, crosses := impl.BandRun(known.shut, b, known.lights), impl.BandCrosses(known.shut, b, known.lights)
		if !slices.Equal(run, known.want) || impl.Changes(known.shut, run) != known.moves || crosses != known.moves {
			t.Error(known, run, crosses)
		}
	}
}

func TestP35OtherBandsAndLightsHaveNoRun(t *testing.T) {
	eachOtherBandRun(func(b impl.Band, lights []int) {
		for _, shut := range []bool{false, true} {
			if run := impl.BandRun(shut, b, lights); len(run) != 0 {
				t.Error("run", shut, b, lights, run)
			}
			if crosses := impl.BandCrosses(shut, b, lights); crosses != -1 {
				t.Error("crosses", shut, b, lights, crosses)
			}
		}
	})
}

func TestP134BandsHaveTwoEnds(t *testing.T) {
	for low := -3; low <= 103; low++ {
		for high := -3; high <= 103; high++ {
			if impl.BandValid(band(low, high)) != (low >= 0 && low <= 99 && high > low && high <= 100) {
				t.Error("band", low, high)
			}
		}
		if impl.BandValid(band(low, low)) {
			t.Error("one end", low)
		}
	}
	for _, b := range someBands() {
		for ; b.Low < b.High; b.Low++ {
			if !impl.BandValid(b) {
				t.Error("valid", b)
			}
		}
		if impl.BandValid(b) {
			t.Error("both equal", b)
		}
	}
	for _, b := range otherBands() {
		if impl.BandValid(b) {
			t.Error("other band", b)
		}
	}
}

func TestP135ItMayBeDark(t *testing.T) {
	for long := range 80 {
		for _, light := range []int{0, 1, 50, 99, 100} {
			if impl.LightsValid(slices.Repeat([]int{light}, long)) != (long <= 60) {
				t.Error("minutes", long, light)
			}
		}
	}
	for light := -5; light <= 105; light++ {
		fine := light >= 0 && light <= 100
		for at := range 60 {
			lights := make([]int, 60)
			lights[at] = light
			if impl.LightsValid(lights) != fine || impl.LightsValid(lights[at:]) != fine || !impl.LightsValid(lights[:at]) {
				t.Error("light", light, at)
			}
		}
	}
	if !impl.LightsValid(nil) || !impl.LightsValid([]int{}) {
		t.Error("without minutes")
	}
	for _, lights := range otherLights() {
		if impl.LightsValid(lights) {
			t.Error("other lights", lights)
		}
	}
}

// anyLights are all numbers of light, and others that BandStep takes as well.
func anyLights() []int {
	list := otherFrom(0, 100)
	for light := range 101 {
		list = append(list, light)
	}
	return list
}

func TestP136BetweenBothBoundsNothingMoves(t *testing.T) {
	for low := range 100 {
		for high := low + 1; high <= 100; high++ {
			b := band(low, high)
			for _, light := range anyLights() {
				for _, shut := range []bool{false, true} {
					behind := impl.BandStep(shut, b, light)
					if behind != isShutBehind(shut, b, []int{light}) || low < light && light < high && behind != shut {
						t.Fatal("step", shut, b, light, behind)
					}
					if impl.BandStep(behind, b, light) != behind {
						t.Fatal("the same light again", shut, b, light)
					}
				}
			}
		}
	}
}

func TestP136KnownStepsAndOtherBands(t *testing.T) {
	for light, want := range map[int][2]bool{
		30: {false, false}, 31: {false, true}, 59: {false, true}, 60: {true, true}, 29: {false, false}, 61: {true, true}, 45: {false, true},
		0: {false, false}, 100: {true, true}, -1: {false, false}, 101: {true, true}, math.MinInt: {false, false}, math.MaxInt: {true, true},
	} {
		if impl.BandStep(false, band(30, 60), light) != want[0] || impl.BandStep(true, band(30, 60), light) != want[1] {
			t.Error(light)
		}
	}
	for _, b := range otherBands() {
		for _, light := range anyLights() {
			if impl.BandStep(false, b, light) || !impl.BandStep(true, b, light) {
				t.Error("other band", b, light)
			}
		}
	}
}

func TestP136AFurtherMinuteWithTheSameLightChangesNothing(t *testing.T) {
	eachBandRun(t, func(shut bool, b impl.Band, lights []int) {
		for i, light := range lights {
			if len(lights) == 60 {
				return
			}
			run, longer := impl.BandRun(shut, b, lights), impl.BandRun(shut, b, slices.Insert(slices.Clone(lights), i, light))
			if len(run) != len(lights) || !slices.Equal(longer, slices.Insert(slices.Clone(run), i, run[i])) {
				t.Fatal("further minute", shut, b, lights, i, longer)
			}
		}
	})
}

func TestP137ChangesAddUp(t *testing.T) {
	var lists [][]bool
	eachListOf([]bool{false, true}, 7, func(list []bool) {
		lists = append(lists, list)
	})
	for _, long := range []int{61, 100, 1000} {
		var list []bool
		for i := range long {
			list = append(list, mixed(long, i, 2) == 1)
		}
		lists = append(lists, list, slices.Repeat([]bool{true}, long), slices.Repeat([]bool{false, true}, long))
	}
	for _, list := range lists {
		kept := slices.Clone(list)
		for _, first := range []bool{false, true} {
			all := impl.Changes(first, list)
			ends := append([]bool{first}, list...)
			for i := range ends {
				if impl.Changes(first, list[:i])+impl.Changes(ends[i], list[i:]) != all {
					t.Fatal("parts", first, list, i)
				}
			}
			if last := ends[len(ends)-1]; (all%2 == 1) != (last != first) || all < 0 || all > len(list) {
				t.Error("end", first, list, all)
			}
			if other := impl.Changes(!first, list); len(list) > 0 && other != all-1 && other != all+1 {
				t.Error("other value", first, list, all, other)
			}
		}
		if !slices.Equal(list, kept) {
			t.Error("changed", kept, list)
		}
	}
}

func TestP137KnownChanges(t *testing.T) {
	for _, known := range []struct {
		first bool
		list  []bool
		want  int
	}{
		{false, nil, 0}, {true, nil, 0}, {true, []bool{}, 0}, {false, []bool{false}, 0}, {false, []bool{true}, 1}, {true, []bool{false}, 1}, {true, []bool{true}, 0},
		{false, []bool{true, false}, 2}, {false, []bool{false, true}, 1}, {true, []bool{true, false}, 1}, {true, []bool{false, false, false}, 1}, {false, []bool{true, true, true}, 1}, {false, []bool{false, true, true, false, true}, 3},
		{false, slices.Repeat([]bool{true, false}, 500), 1000}, {true, slices.Repeat([]bool{true, false}, 500), 999},
	} {
		if got := impl.Changes(known.first, known.list); got != known.want {
			t.Error(known, got)
		}
	}
}

func TestP138SmallLightNeverCrosses(t *testing.T) {
	for _, b := range someBands() {
		for _, shut := range []bool{false, true} {
			for many := range 61 {
				var lights []int
				for i := range many {
					if b.High-b.Low > 1 {
						lights = append(lights, b.Low+1+mixed(many, i, b.High-b.Low-1))
					}
				}
				if crosses := impl.BandCrosses(shut, b, lights); crosses != 0 {
					t.Error("small light", shut, b, lights, crosses)
				}
			}
		}
	}
	eachBandRun(t, func(shut bool, b impl.Band, lights []int) {
		if len(lights) == 0 || len(lights) == 60 {
			return
		}
		twice := slices.Insert(slices.Clone(lights), 0, lights[0])
		if impl.BandCrosses(shut, b, twice) != impl.BandCrosses(shut, b, lights) {
			t.Error("twice", shut, b, lights)
		}
	})
}
