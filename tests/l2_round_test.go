package tests

import (
	"math"
	"slices"
	"testing"

	"loop.example/sundials/impl"
)

func TestP6WaysAreInOrder(t *testing.T) {
	all := goingWays()
	for _, a := range all {
		for _, b := range all {
			less := impl.RoundLess(a, b)
			if less != before(a, b) || less && impl.RoundLess(b, a) {
				t.Fatal("order", a, b, less)
			}
			if !less {
				continue
			}
			for _, c := range all {
				if impl.RoundLess(b, c) && !impl.RoundLess(a, c) {
					t.Fatal("three ways", a, b, c)
				}
			}
		}
	}
}

func TestP6StretchingDoesNotMatter(t *testing.T) {
	for _, a := range smallWays(3) {
		for _, b := range smallWays(3) {
			for _, times := range []int{2, 7, 333} {
				far := way(b.East*times, b.North*times)
				if impl.RoundLess(a, b) != impl.RoundLess(a, far) || impl.RoundLess(b, a) != impl.RoundLess(far, a) {
					t.Fatal(a, b, times)
				}
			}
		}
	}
}

func TestP6OtherWaysAreNotInOrder(t *testing.T) {
	for _, other := range noWays() {
		for _, w := range append(goingWays(), noWays()...) {
			if impl.RoundLess(other, w) || impl.RoundLess(w, other) {
				t.Error(other, w)
			}
		}
	}
}

// onTheWay tells by angles whether one meets the first way before the third one, turning from the second one on.
func onTheWay(w, from, to impl.Way) bool {
	return ahead(w, from) == 0 || ahead(w, from) < ahead(to, from)-1e-9
}

// ahead is how far a way is round from another one, from 0 on, and exactly 0 in the same direction.
func ahead(w, from impl.Way) float64 {
	angle := around(w) - around(from)
	if math.Abs(angle) < 1e-9 {
		return 0
	}
	if angle < 0 {
		angle += 2 * math.Pi
	}
	return angle
}

func TestP7RoundFromOneToTheOtherAndOn(t *testing.T) {
	all := goingWays()
	for _, from := range all {
		for _, to := range all {
			for _, w := range all {
				got := impl.Between(w, from, to)
				if got != onTheWay(w, from, to) {
					t.Fatal("between", w, from, to, got)
				}
				different := !impl.SameWay(w, from) && !impl.SameWay(w, to) && !impl.SameWay(from, to)
				if different && got == impl.Between(w, to, from) {
					t.Fatal("on", w, from, to, got)
				}
			}
		}
	}
}

func TestP7SameAndOppositeWays(t *testing.T) {
	for _, w := range goingWays() {
		back := opposite(w)
		left := impl.WayTimes(w, way(0, 1))
		right := opposite(left)
		if !impl.Between(w, w, w) || !impl.Between(w, w, back) || impl.Between(back, w, back) || impl.Between(back, w, w) {
			t.Error("along", w)
		}
		if !impl.Between(left, w, back) || impl.Between(right, w, back) || impl.Between(left, w, w) || impl.Between(right, w, w) {
			t.Error("to the sides", w)
		}
		if !impl.Between(back, w, right) || !impl.Between(right, back, w) || impl.Between(w, left, right) {
			t.Error("half turns", w)
		}
	}
}

func TestP7OtherWaysAreNotBetween(t *testing.T) {
	a, b := way(1, 0), way(0, 1)
	for _, other := range noWays() {
		for _, w := range []impl.Way{a, b, other} {
			if impl.Between(other, w, b) || impl.Between(w, other, b) || impl.Between(w, w, other) || impl.Between(other, other, w) || impl.Between(w, other, other) {
				t.Error(other, w)
			}
		}
		if impl.Between(a, a, other) || impl.Between(other, a, b) {
			t.Error(other)
		}
	}
}

func TestP70OppositeWaysAreInDifferentHalves(t *testing.T) {
	all := append(goingWays(), way(1001, 0), way(-1001, 0), way(0, 5000), way(0, -5000), way(-1<<40, 1), way(1<<40, -1))
	for _, w := range all {
		half, back := impl.Half(w), impl.Half(opposite(w))
		if half != 0 && half != 1 || half+back != 1 {
			t.Error("way back", w, half, back)
		}
		if (half == 0) != (around(w) < math.Pi-1e-15) {
			t.Error("half", w, half)
		}
	}
	for w, want := range map[impl.Way]int{
		{}: -1, way(5, 0): 0, way(-5, 0): 1, way(0, 1): 0, way(0, -1): 1, way(-1000, 1): 0, way(1000, -1): 1, way(math.MinInt, math.MaxInt): 0, way(0, math.MinInt): 1,
	} {
		if impl.Half(w) != want {
			t.Error(w, impl.Half(w))
		}
	}
}

func TestP71TheSameDirectionIsTheSame(t *testing.T) {
	all := append(smallWays(4), farWays()...)
	for _, a := range all {
		for _, b := range all {
			same := impl.SameWay(a, b)
			if same != (impl.Cross(a, b) == 0 && impl.Dot(a, b) > 0) || same != impl.SameWay(b, a) {
				t.Fatal(a, b, same)
			}
			if a != (impl.Way{}) && b != (impl.Way{}) && same != (ahead(a, b) == 0) {
				t.Fatal("by angles", a, b, same)
			}
		}
		if impl.SameWay(a, opposite(a)) {
			t.Error("opposite", a)
		}
	}
	if !impl.SameWay(way(3, 4), way(6, 8)) || !impl.SameWay(way(-1000, 0), way(-1, 0)) || impl.SameWay(way(3, 4), way(-3, -4)) || impl.SameWay(impl.Way{}, impl.Way{}) {
		t.Error("known ways")
	}
	for _, other := range noWays() {
		for _, w := range append(goingWays(), other) {
			if impl.SameWay(other, w) || impl.SameWay(w, other) {
				t.Error("other way", other, w)
			}
		}
	}
}

func TestP72WaysCanBeMissing(t *testing.T) {
	all := goingWays()
	if !impl.WaysValid(nil) || !impl.WaysValid([]impl.Way{}) {
		t.Error("without ways")
	}
	for many := 1; many <= 12; many++ {
		list := slices.Clone(all[:many])
		if impl.WaysValid(list) != (many <= 8) {
			t.Error("so many", many)
		}
		if many <= 9 && !impl.WaysValid(list[1:]) {
			t.Error("without the first one", many)
		}
		for at := range list {
			for _, other := range noWays() {
				changed := slices.Clone(list)
				changed[at] = other
				if impl.WaysValid(changed) {
					t.Error("with another one", many, at, other)
				}
			}
		}
		if impl.WaysValid(append(list, impl.Way{})) {
			t.Error("with nothing", many)
		}
	}
	for _, w := range all {
		if !impl.WaysValid([]impl.Way{w}) || !impl.WaysValid(slices.Repeat([]impl.Way{w}, 8)) || impl.WaysValid(slices.Repeat([]impl.Way{w}, 9)) {
			t.Error(w)
		}
	}
}

// byAngles is the order of valid ways by their angles, those in the same direction in their order.
func byAngles(list []impl.Way) []int {
	order := []int{}
	for i := range list {
		at := 0
		for at < len(order) && !before(list[i], list[order[at]]) {
			at++
		}
		order = slices.Insert(order, at, i)
	}
	return order
}

func checkOrder(t *testing.T, list []impl.Way) {
	t.Helper()
	kept := slices.Clone(list)
	got := impl.RoundOrder(list)
	if !slices.Equal(got, byAngles(list)) {
		t.Fatal("order", list, got)
	}
	if !slices.Equal(kept, list) {
		t.Fatal("changed", kept, list)
	}
	for i := range got {
		for j := range i {
			earlier, later := list[got[j]], list[got[i]]
			if impl.RoundLess(later, earlier) || impl.SameWay(later, earlier) && got[i] < got[j] {
				t.Fatal("pair", list, got, j, i)
			}
		}
	}
}

func TestP73RoundAndRound(t *testing.T) {
	all := goingWays()
	// With the step 0 a list has one way alone, so that all are in the same direction.
	for step := range 30 {
		for first := range all {
			var list []impl.Way
			for i := range 8 {
				list = append(list, all[(first+i*step)%len(all)])
				checkOrder(t, list)
			}
			slices.Reverse(list)
			checkOrder(t, list)
		}
	}
	got := impl.RoundOrder([]impl.Way{way(-1, 2), way(0, -1), way(6, 8), way(2, 0), way(3, 4), way(-2, 4), way(-2, 0), way(1, 0)})
	if !slices.Equal(got, []int{3, 7, 2, 4, 0, 5, 6, 1}) {
		t.Error("known order", got)
	}
}

func TestP73OtherWaysHaveNoOrder(t *testing.T) {
	if got := impl.RoundOrder(nil); len(got) != 0 {
		t.Error("without ways", got)
	}
	all := goingWays()
	if got := impl.RoundOrder(all[:9]); got != nil {
		t.Error("too many", got)
	}
	for _, other := range noWays() {
		for at := range 8 {
			list := slices.Clone(all[:8])
			list[at] = other
			if got := impl.RoundOrder(list); got != nil {
				t.Error(at, other, got)
			}
		}
	}
}

func TestP73OrdersAreNewMemory(t *testing.T) {
	list := []impl.Way{way(0, 1), way(1, 0)}
	first, second := impl.RoundOrder(list), impl.RoundOrder(list)
	first[0], first[1] = 7, 7
	if !slices.Equal(second, []int{1, 0}) || !slices.Equal(impl.RoundOrder(list), []int{1, 0}) {
		t.Error(second)
	}
}
