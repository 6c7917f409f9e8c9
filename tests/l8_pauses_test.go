package tests

import (
	"slices"
	"testing"

	"loop.example/sundials/impl"
)

// eachPauseRun calls f for some blinds, bands, pauses and lights.
func eachPauseRun(t *testing.T, f func(x impl.Blind, b impl.Band, pause int, lights []int)) {
	t.Helper()
	eachBandRun(t, func(shut bool, b impl.Band, lights []int) {
		for _, pause := range []int{0, 1, 2, 3, 7, 19, 20} {
			for _, still := range []int{0, 1, 2, 3, 6, 19, 20} {
				f(blind(shut, still), b, pause, lights)
			}
		}
	})
}

func TestP36NoBlindMovesTwiceWithinThePause(t *testing.T) {
	eachPauseRun(t, func(x impl.Blind, b impl.Band, pause int, lights []int) {
		run, last := impl.PauseRun(x, b, pause, lights)
		wantRun, wantLast := pausedRun(x, b, pause, lights)
		if !slices.Equal(run, wantRun) || last != wantLast {
			t.Error("run", x, b, pause, lights, run, last)
		}
		before, moved := x.Shut, -1-x.Still
		for minute, shut := range run {
			if shut == before {
				continue
			}
			if minute-moved-1 < pause {
				t.Error("within the pause", x, b, pause, lights, minute)
			}
			before, moved = shut, minute
		}
		if pause == 0 && !slices.Equal(run, impl.BandRun(x.Shut, b, lights)) {
			t.Error("without a pause", x, b, lights, run)
		}
	})
}

func TestP36RunsOfPartsAndTheirMemory(t *testing.T) {
	for _, lights := range someLights(band(30, 60)) {
		for _, pause := range []int{0, 2, 20} {
			x := blind(false, 1)
			run, last := impl.PauseRun(x, band(30, 60), pause, lights)
			for i := range len(lights) + 1 {
				first, middle := impl.PauseRun(x, band(30, 60), pause, lights[:i])
				second, end := impl.PauseRun(middle, band(30, 60), pause, lights[i:])
				if !slices.Equal(slices.Concat(first, second), run) || end != last {
					t.Fatal("parts", pause, lights, i, first, middle, second, end)
				}
			}
			for i := range run {
				run[i] = !run[i]
			}
			again, _ := impl.PauseRun(x, band(30, 60), pause, lights)
			if want, _ := pausedRun(x, band(30, 60), pause, lights); !slices.Equal(again, want) {
				t.Fatal("shares memory", pause, lights, again)
			}
		}
	}
}

func TestP36KnownPauses(t *testing.T) {
	b, lights := band(30, 60), []int{50, 70, 40, 65, 20, 59, 60}
	high, low := 60, 30
	for _, known := range []struct {
		x      impl.Blind
		pause  int
		lights []int
		want   []bool
		last   impl.Blind
	}{
		{blind(false, 9), 2, lights, []bool{false, true, true, true, false, false, false}, blind(false, 2)}, {blind(false, 9), 0, lights, []bool{false, true, true, true, false, false, true}, blind(true, 0)},
		{blind(false, 0), 20, lights, make([]bool, 7), blind(false, 7)}, {blind(true, 19), 20, lights, []bool{true, true, true, true, false, false, false}, blind(false, 2)},
		// Without minutes the blind stays as it was.
		{blind(true, 0), 0, nil, nil, blind(true, 0)}, {blind(true, 20), 20, nil, nil, blind(true, 20)}, {blind(false, 7), 3, []int{}, nil, blind(false, 7)},
		// A pause of nothing, of a minute, and of two.
		{blind(false, 0), 0, []int{high, low, high, low}, []bool{true, false, true, false}, blind(false, 0)}, {blind(false, 0), 1, []int{high, low, high, low}, []bool{false, false, true, true}, blind(true, 1)}, {blind(false, 1), 1, []int{high, low, low, high, high}, []bool{true, true, false, false, true}, blind(true, 0)},
		{blind(false, 2), 2, []int{high, low, low, low, high}, []bool{true, true, true, false, false}, blind(false, 1)}, {blind(false, 1), 2, []int{high, low, high, high}, []bool{false, false, true, true}, blind(true, 1)},
		{blind(true, 0), 20, slices.Repeat([]int{low}, 22), append(slices.Repeat([]bool{true}, 20), false, false), blind(false, 1)}, {blind(true, 3), 5, slices.Repeat([]int{high}, 60), slices.Repeat([]bool{true}, 60), blind(true, 20)},
	} {
		if run, last := impl.PauseRun(known.x, b, known.pause, known.lights); !slices.Equal(run, known.want) || last != known.last {
			t.Error(known, run, last)
		}
	}
}

// eachOtherPause calls f for blinds, bands and pauses that are not valid, for one reason or for more.
func eachOtherPause(f func(x impl.Blind, b impl.Band, pause int)) {
	for _, shut := range []bool{false, true} {
		for _, n := range otherFrom(0, 20) {
			f(blind(shut, n), band(30, 60), 0)
			f(blind(shut, n), band(30, 60), 20)
			f(blind(shut, 5), band(30, 60), n)
			f(blind(shut, 20), band(0, 100), n)
			f(blind(shut, n), band(60, 30), n)
		}
		for _, b := range otherBands() {
			f(blind(shut, 0), b, 0)
			f(blind(shut, 20), b, 7)
		}
	}
}

func TestP36OtherArgumentsHaveNoRun(t *testing.T) {
	refused := func(x impl.Blind, b impl.Band, pause int, lights []int) {
		t.Helper()
		if run, last := impl.PauseRun(x, b, pause, lights); len(run) != 0 || last != (impl.Blind{}) {
			t.Error(x, b, pause, lights, run, last)
		}
	}
	eachOtherPause(func(x impl.Blind, b impl.Band, pause int) {
		for _, lights := range [][]int{nil, {0}, {100, 0, 50}, {101}} {
			refused(x, b, pause, lights)
		}
	})
	for _, lights := range otherLights() {
		refused(blind(false, 20), band(30, 60), 2, lights)
		refused(blind(true, 0), band(0, 1), 0, lights)
		refused(blind(true, 3), band(99, 100), 20, lights)
	}
}

func TestP139BlindsThatJustMovedAreValid(t *testing.T) {
	for _, shut := range []bool{false, true} {
		for still := -30; still <= 50; still++ {
			if impl.BlindValid(blind(shut, still)) != (still >= 0 && still <= 20) {
				t.Error("still", shut, still)
			}
		}
		for _, still := range otherFrom(0, 20) {
			if impl.BlindValid(blind(shut, still)) {
				t.Error("other blind", shut, still)
			}
		}
		if !impl.BlindValid(blind(shut, 0)) {
			t.Error("just moved", shut)
		}
	}
}

func TestP140BlindsMoveWhenTheyMay(t *testing.T) {
	for _, b := range someBands() {
		for _, light := range append(otherFrom(0, 100), b.Low-1, b.Low, b.Low+1, b.High-1, b.High, b.High+1, 0, 50, 100) {
			for still := range 21 {
				for pause := range 21 {
					for _, shut := range []bool{false, true} {
						got, wanted := impl.PauseStep(blind(shut, still), b, pause, light), impl.BandStep(shut, b, light)
						want := blind(shut, min(still+1, 20))
						if wanted != shut && still >= pause {
							want = blind(wanted, 0)
						}
						if got != want || !impl.BlindValid(got) {
							t.Fatal(shut, still, b, pause, light, got)
						}
					}
				}
			}
		}
	}
}

func TestP140KnownSteps(t *testing.T) {
	b := band(30, 60)
	for _, known := range []struct {
		x            impl.Blind
		pause, light int
		want         impl.Blind
	}{
		{blind(false, 2), 3, 90, blind(false, 3)}, {blind(false, 3), 3, 90, blind(true, 0)}, {blind(false, 0), 0, 60, blind(true, 0)}, {blind(true, 0), 0, 30, blind(false, 0)}, {blind(false, 0), 1, 60, blind(false, 1)}, {blind(true, 0), 1, 30, blind(true, 1)}, {blind(true, 1), 1, 30, blind(false, 0)},
		{blind(false, 20), 20, 59, blind(false, 20)}, {blind(false, 20), 20, 60, blind(true, 0)}, {blind(false, 19), 20, 60, blind(false, 20)}, {blind(true, 20), 0, 31, blind(true, 20)}, {blind(true, 19), 0, 31, blind(true, 20)}, {blind(true, 18), 0, 100, blind(true, 19)}, {blind(false, 5), 0, 0, blind(false, 6)},
		{blind(true, 4), 2, -1000, blind(false, 0)}, {blind(false, 4), 2, 1000, blind(true, 0)},
	} {
		if got := impl.PauseStep(known.x, b, known.pause, known.light); got != known.want {
			t.Error(known, got)
		}
	}
	eachOtherPause(func(x impl.Blind, b impl.Band, pause int) {
		for _, light := range anyLights() {
			if got := impl.PauseStep(x, b, pause, light); got != (impl.Blind{}) {
				t.Fatal("other arguments", x, b, pause, light, got)
			}
		}
	})
}
