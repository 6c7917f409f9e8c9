package tests

import (
	"math"
	"slices"
	"testing"

	"loop.example/sundials/impl"
)

func band(low, high int) impl.Band {
	return impl.Band{Low: low, High: high}
}

func blind(shut bool, still int) impl.Blind {
	return impl.Blind{Shut: shut, Still: still}
}

func entry(minute int, text string) impl.Entry {
	return impl.Entry{Minute: minute, Text: text}
}

// someBands are the narrowest and the widest ones, at both ends and between them.
func someBands() []impl.Band {
	return []impl.Band{band(30, 60), band(0, 100), band(0, 1), band(99, 100), band(1, 99), band(50, 51), band(49, 51), band(0, 50), band(97, 100)}
}

// otherBands are bands that are not valid, each for one reason.
func otherBands() []impl.Band {
	list := []impl.Band{{}, band(5, 5), band(100, 100), band(6, 5), band(60, 30), band(100, 0), band(-1, 0), band(100, 101), band(math.MinInt, math.MaxInt), band(math.MaxInt, math.MinInt)}
	for _, n := range otherFrom(0, 100) {
		list = append(list, band(n, 50), band(50, n), band(n, n), band(0, n), band(n, 100))
	}
	return list
}

// someLights are lights that belong to a band: at its bounds, just beside them, between both and far away, in all orders and as if by chance.
func someLights(b impl.Band) [][]int {
	list := [][]int{{50, 70, 40, 65, 20, 59, 60}}
	eachListOf([]int{b.Low, b.Low + 1, b.High - 1, b.High}, 4, func(lights []int) {
		list = append(list, lights)
	})
	for _, long := range []int{1, 7, 30, 59, 60} {
		list = append(list, slices.Repeat([]int{b.Low}, long), slices.Repeat([]int{b.High}, long), make([]int, long), slices.Repeat([]int{100}, long))
		for seed := range 8 {
			var near, far []int
			for i := range long {
				near = append(near, min(max(b.Low-2+mixed(seed, i, b.High-b.Low+5), 0), 100))
				far = append(far, mixed(seed+long, i, 101))
			}
			list = append(list, near, far)
		}
	}
	return list
}

// otherLights are lights that are not valid, each for one reason.
func otherLights() [][]int {
	list := [][]int{make([]int, 61), slices.Repeat([]int{100}, 61), slices.Repeat([]int{50}, 1000)}
	for _, n := range otherFrom(0, 100) {
		list = append(list, []int{n}, []int{n, 50}, []int{50, n}, append(slices.Repeat([]int{50}, 59), n))
	}
	return list
}

// eachBandRun calls f for some bands and lights, and both blinds at first.
func eachBandRun(t *testing.T, f func(shut bool, b impl.Band, lights []int)) {
	t.Helper()
	for _, b := range someBands() {
		for _, lights := range someLights(b) {
			kept := slices.Clone(lights)
			f(false, b, lights)
			f(true, b, lights)
			if !slices.Equal(lights, kept) {
				t.Error("changed", kept, lights)
			}
			if t.Failed() {
				t.FailNow()
			}
		}
	}
}

// eachOtherBandRun calls f for bands and lights of which at least one is not valid.
func eachOtherBandRun(f func(b impl.Band, lights []int)) {
	for _, b := range otherBands() {
		f(b, nil)
		f(b, []int{0, 50, 100})
		f(b, []int{-1})
	}
	for _, lights := range otherLights() {
		f(band(30, 60), lights)
		f(band(0, 100), lights)
		f(band(60, 30), lights)
	}
}

// isShutBehind tells a blind by the last light that was at a bound or beyond it.
func isShutBehind(shut bool, b impl.Band, lights []int) bool {
	for _, light := range slices.Backward(lights) {
		if light >= b.High {
			return true
		}
		if light <= b.Low {
			return false
		}
	}
	return shut
}

// shutBehindEach is isShutBehind of each beginning of lights.
func shutBehindEach(shut bool, b impl.Band, lights []int) []bool {
	var list []bool
	for i := range lights {
		list = append(list, isShutBehind(shut, b, lights[:i+1]))
	}
	return list
}

// crossesByEnds leaves out all lights between both bounds, and counts the neighbours among the others that are at different ends.
func crossesByEnds(shut bool, b impl.Band, lights []int) int {
	ends := []bool{shut}
	for _, light := range lights {
		if light <= b.Low || light >= b.High {
			ends = append(ends, light >= b.High)
		}
	}
	count := 0
	for i, end := range ends[1:] {
		if end != ends[i] {
			count++
		}
	}
	return count
}

// pausedRun is a blind that knows at which minute it moved last, where the lights begin at the minute 0, and moves only when the minutes since then are as many as the pause.
func pausedRun(x impl.Blind, b impl.Band, pause int, lights []int) ([]bool, impl.Blind) {
	var list []bool
	shut, moved := x.Shut, -1-x.Still
	for minute, light := range lights {
		wanted := shut && light > b.Low || !shut && light >= b.High
		if wanted != shut && minute-moved > pause {
			shut, moved = wanted, minute
		}
		list = append(list, shut)
	}
	return list, blind(shut, min(len(lights)-1-moved, 20))
}

// warmBehind is the warmth of a room by single degrees: one for each time that the difference to the air holds the number by which the room keeps it, and one for each ten of the light.
func warmBehind(warm, outside, light, keeps int) int {
	next := warm
	for far := outside - warm; far >= keeps; far -= keeps {
		next++
	}
	for far := warm - outside; far >= keeps; far -= keeps {
		next--
	}
	for ; light >= 10 && next < 500; light -= 10 {
		next++
	}
	return next
}

// someKeeps are numbers by which rooms keep their warmth.
func someKeeps() []int {
	return []int{2, 3, 7, 10, 50, 98, 99}
}

// someAirs are warmths of the air outside.
func someAirs() []int {
	return []int{0, 1, 2, 9, 100, 111, 249, 250, 333, 498, 499, 500}
}

// eachOtherRoom calls f for rooms that are not valid, for one reason or for more.
func eachOtherRoom(f func(warm, outside, keeps int)) {
	for _, n := range otherFrom(0, 500) {
		f(n, 100, 10)
		f(100, n, 10)
		f(n, n, 2)
		f(n, n, n)
	}
	for _, n := range append(otherFrom(2, 99), 0, 1, -1, -2, -10, -99) {
		f(100, 200, n)
		f(100, 100, n)
		f(0, 500, n)
		f(-1, 500, n)
	}
}

// somePlans are plans of up to eight entries: at both ends of the day, minute by minute, in one hour and over the day.
func somePlans() [][]impl.Entry {
	list := [][]impl.Entry{
		nil, {}, {entry(420, "open"), entry(1200, "shut")}, {entry(0, "a")}, {entry(1439, "z")}, {entry(0, "a"), entry(1439, "z")}, {entry(700, ":")}, {entry(59, "07:00"), entry(60, "07:00")},
		{entry(0, "0"), entry(1, "1"), entry(2, "2"), entry(3, "3"), entry(4, "4"), entry(5, "5"), entry(6, "6"), entry(7, "7")},
		{entry(1432, "a"), entry(1433, "bb"), entry(1434, "ccc"), entry(1435, "dddd"), entry(1436, "eeeee"), entry(1437, "a"), entry(1438, "b"), entry(1439, "c")},
	}
	for many := 1; many <= 8; many++ {
		for seed := range 6 {
			var plan []impl.Entry
			for i := range many {
				plan = append(plan, entry(i*180+mixed(seed+many*10, i, 180), markText(mixed(seed, i, 35))))
			}
			list = append(list, plan)
		}
	}
	return list
}

// otherPlans are plans that are not valid, each for one reason.
func otherPlans() [][]impl.Entry {
	fine := entry(600, "fine")
	var nine []impl.Entry
	for i := range 9 {
		nine = append(nine, entry(i*100, "a"))
	}
	list := [][]impl.Entry{nine, slices.Repeat([]impl.Entry{fine}, 1000), {fine, fine}, {fine, entry(600, "other")}, {fine, entry(599, "a")}, {entry(1, "a"), fine, entry(599, "b")}, {entry(1, "a"), fine, entry(1, "a")}, {entry(1439, "a"), entry(0, "b")}}
	for _, n := range otherFrom(0, 1439) {
		list = append(list, []impl.Entry{entry(n, "a")}, []impl.Entry{entry(n, "a"), fine}, []impl.Entry{fine, entry(n, "a")})
	}
	for _, text := range otherTexts() {
		list = append(list, []impl.Entry{entry(5, text)}, []impl.Entry{entry(5, text), fine}, []impl.Entry{fine, entry(700, text)})
	}
	return list
}

// eachMinute tells for each minute of a day what holds then, by a walk through two days, and how far the next entry is, by a walk back; "" and -1 without entries.
func eachMinute(plan []impl.Entry) (texts []string, nexts []int) {
	at := map[int]string{}
	for _, e := range plan {
		at[e.Minute] = e.Text
	}
	texts, nexts = make([]string, 1440), make([]int, 1440)
	held, far := "", -1
	for minute := range 2880 {
		if text, is := at[minute%1440]; is {
			held = text
		}
		texts[minute%1440] = held
	}
	for minute := 2879; minute >= 0; minute-- {
		nexts[minute%1440] = far
		if _, is := at[minute%1440]; is {
			far = 0
		}
		if far >= 0 {
			far++
		}
	}
	return texts, nexts
}
