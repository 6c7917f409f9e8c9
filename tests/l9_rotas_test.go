package tests

import (
	"math"
	"slices"
	"testing"

	"loop.example/sundials/impl"
)

// someRotas are plans with few or many years and beds: none, beds of nothing, one family, turns, and mixed ones.
func someRotas() [][][]int {
	list := [][][]int{
		nil, {}, {{}}, {{}, {}, {}}, {{0}}, {{5}}, {{1, 2}, {2, 1}}, {{1, 2}, {1, 0}}, {{1, 2}, {0, 3}, {1, 4}}, {{0, 1}, {2, 1}, {0, 3}}, {{4}, {1}, {1}, {4}},
		{{0}, {1}, {2}, {3}, {4}, {5}, {1}, {0}}, {{0, 0}, {1, 1}, {2, 2}, {3, 3}, {4, 4}, {5, 5}, {2, 1}, {0, 3}},
	}
	for years := range 9 {
		for beds := range 7 {
			list = append(list, mixedRota(years, beds, 0, 1))
			for seed := range 10 {
				list = append(list, mixedRota(years, beds, seed, []int{2, 4, 6}[seed%3]))
			}
		}
	}
	return list
}

// mixedRota has some of so many families in its beds as if by chance.
func mixedRota(years, beds, seed, families int) [][]int {
	plan := make([][]int, years)
	for y := range plan {
		for b := range beds {
			plan[y] = append(plan[y], mixed(seed+1000*years+100*beds, 10*y+b, families))
		}
	}
	return plan
}

// otherRotas are plans that are not valid, each for one reason.
func otherRotas() [][][]int {
	list := [][][]int{
		mixedRota(9, 2, 0, 6), mixedRota(9, 0, 0, 1), mixedRota(1000, 1, 0, 6), mixedRota(1, 7, 0, 6), mixedRota(8, 7, 0, 6), mixedRota(2, 1000, 0, 6), make([][]int, 9),
		{{1}, {1, 2}}, {{1, 2}, {1}}, {{1}, {}}, {{}, {1}}, {{1, 2}, {2, 1}, {3}}, {{1, 2}, {2, 1}, {3, 4, 5}}, {{1, 2}, nil, {2, 1}}, {nil, {2, 1}, {2, 1}},
	}
	for _, n := range otherFrom(0, 5) {
		list = append(list, [][]int{{n}}, [][]int{{1, n}}, [][]int{{n, 1}, {1, 2}}, [][]int{{1, 2}, {2, n}}, append(mixedRota(7, 1, 0, 6), []int{n}), append(mixedRota(7, 6, 0, 6), []int{0, 1, 2, 3, 4, n}))
	}
	return list
}

// copyOf is a plan that shares no memory with another one.
func copyOf(plan [][]int) [][]int {
	var list [][]int
	for _, year := range plan {
		list = append(list, slices.Clone(year))
	}
	return list
}

func samePlan(a, b [][]int) bool {
	return slices.EqualFunc(a, b, slices.Equal)
}

// eachRota calls f for some plans.
func eachRota(t *testing.T, f func(plan [][]int)) {
	t.Helper()
	for _, plan := range someRotas() {
		kept := copyOf(plan)
		f(plan)
		if !samePlan(plan, kept) {
			t.Error("changed", kept, plan)
		}
		if t.Failed() {
			t.FailNow()
		}
	}
}

// restIn walks through the years of each bed and remembers in which one each family was there last.
func restIn(plan [][]int) int {
	type stand struct{ bed, family int }
	rest, last := 8, map[stand]int{}
	for y, year := range plan {
		for bed, family := range year {
			if before, known := last[stand{bed, family}]; known {
				rest = min(rest, y-before)
			}
			last[stand{bed, family}] = y
		}
	}
	return rest
}

// checkOwnMemory changes all that a plan has, and what may lie behind its years, year by year.
func checkOwnMemory(t *testing.T, plan [][]int) {
	t.Helper()
	kept := copyOf(plan)
	for y := range plan {
		for bed := range plan[y] {
			plan[y][bed] = -9
		}
		_ = append(plan[y], -9, -9, -9)
		if !samePlan(plan[y+1:], kept[y+1:]) {
			t.Error("years share memory", kept, y)
		}
	}
}

func TestP41TurningRestsAsLongAsThereAreFamilies(t *testing.T) {
	for years := 1; years <= 8; years++ {
		for families := 1; families <= 6; families++ {
			plan := impl.RotaTurn(years, families)
			if len(plan) != years || !impl.RotaValid(plan) {
				t.Fatal("years", years, families, plan)
			}
			for y, year := range plan {
				var want []int
				for b := range families {
					want = append(want, (b+y)%families)
				}
				if !slices.Equal(year, want) {
					t.Error("turned", years, families, y, year)
				}
				slices.Sort(want)
				for family, sorted := range want {
					if family != sorted {
						t.Error("every family in one bed", years, families, y, year)
					}
				}
			}
			rest := 8
			if years > families {
				rest = families
			}
			if got := impl.RotaRest(plan); got != rest {
				t.Error("rest", years, families, got)
			}
			checkOwnMemory(t, plan)
		}
	}
}

func TestP41KnownTurns(t *testing.T) {
	for _, known := range []struct {
		years, families int
		want            [][]int
	}{
		{4, 3, [][]int{{0, 1, 2}, {1, 2, 0}, {2, 0, 1}, {0, 1, 2}}}, {1, 1, [][]int{{0}}}, {3, 1, [][]int{{0}, {0}, {0}}}, {1, 6, [][]int{{0, 1, 2, 3, 4, 5}}}, {2, 2, [][]int{{0, 1}, {1, 0}}},
	} {
		if got := impl.RotaTurn(known.years, known.families); !samePlan(got, known.want) {
			t.Error(known, got)
		}
	}
	for _, n := range []int{1, 2, 5, 6, 7, 8} {
		for _, years := range otherFrom(1, 8) {
			if got := impl.RotaTurn(years, n); len(got) != 0 {
				t.Error("other years", years, n, got)
			}
		}
		for _, families := range otherFrom(1, 6) {
			if got := impl.RotaTurn(n, families); len(got) != 0 {
				t.Error("other families", n, families, got)
			}
		}
	}
	if len(impl.RotaTurn(0, 0)) != 0 || len(impl.RotaTurn(math.MinInt, math.MaxInt)) != 0 || len(impl.RotaTurn(-1, -1)) != 0 {
		t.Error("neither years nor families")
	}
}

func TestP151YearsCanBeLeftOut(t *testing.T) {
	eachRota(t, func(plan [][]int) {
		if !impl.RotaValid(plan) {
			t.Error("plan", plan)
		}
		for y := range plan {
			if fewer := slices.Delete(copyOf(plan), y, y+1); !impl.RotaValid(fewer) {
				t.Error("left out", plan, y)
			}
		}
	})
	for years := range 20 {
		for beds := range 20 {
			if impl.RotaValid(mixedRota(years, beds, 0, 6)) != (years <= 8 && beds <= 6 || years == 0) {
				t.Error("years and beds", years, beds)
			}
		}
	}
	for family := -10; family <= 20; family++ {
		if impl.RotaValid([][]int{{family}}) != (family >= 0 && family <= 5) {
			t.Error("family", family)
		}
	}
	for _, plan := range otherRotas() {
		if impl.RotaValid(plan) {
			t.Error("other plan", plan)
		}
	}
}

func TestP152FewerYearsRestLonger(t *testing.T) {
	eachRota(t, func(plan [][]int) {
		rest := impl.RotaRest(plan)
		if rest != restIn(plan) || rest < 1 || rest > 8 {
			t.Error("rest", plan, rest)
		}
		for y := range plan {
			shorter := impl.RotaRest(plan[:y])
			if shorter < rest || shorter != restIn(plan[:y]) || impl.RotaRest(plan[y:]) < rest {
				t.Error("fewer years", plan, y, rest, shorter)
			}
		}
		// No family comes back earlier.
		for y, year := range plan {
			for later := y + 1; later < min(y+rest, len(plan)); later++ {
				for bed, family := range year {
					if plan[later][bed] == family {
						t.Error("comes back", plan, bed, y, later, rest)
					}
				}
			}
		}
	})
}

func TestP152KnownRests(t *testing.T) {
	for _, known := range []struct {
		plan [][]int
		want int
	}{
		{nil, 8}, {[][]int{}, 8}, {[][]int{{}}, 8}, {[][]int{{}, {}, {}}, 8}, {[][]int{{3}}, 8}, {[][]int{{1, 2}, {2, 1}}, 8}, {[][]int{{1, 2}, {1, 0}}, 1}, {[][]int{{1, 2}, {0, 3}, {1, 4}}, 2}, {[][]int{{0}, {1}, {2}, {3}, {4}, {5}, {1}, {0}}, 5},
		// The same family twice in a year, in different beds, and the next time of three.
		{[][]int{{1, 1, 1}}, 8}, {[][]int{{0}, {1}, {2}, {3}, {4}, {5}, {5}, {0}}, 1}, {[][]int{{0}, {1}, {2}, {0}, {1}, {0}}, 2}, {[][]int{{0}, {1}, {2}, {3}, {4}, {1}, {2}, {0}}, 4}, {[][]int{{0}, {1}, {2}, {3}, {4}, {1}, {5}, {0}}, 4}, {[][]int{{0}, {1}, {2}, {3}, {4}, {5}, {0}}, 6}, {[][]int{{0}, {1}, {1}, {2}}, 1},
		{[][]int{{0, 1}, {2, 3}, {4, 5}, {1, 1}}, 3}, {[][]int{{0, 1, 2, 3, 4, 5}, {5, 0, 1, 2, 3, 4}, {4, 5, 0, 1, 2, 5}, {3, 4, 5, 0, 1, 5}}, 1},
	} {
		if got := impl.RotaRest(known.plan); got != known.want {
			t.Error(known, got)
		}
	}
	for _, plan := range otherRotas() {
		if got := impl.RotaRest(plan); got != -1 {
			t.Error("other plan", plan, got)
		}
	}
}

// joins reports whether two valid plans have the same number of beds, or one has no years, and they are not too long together.
func joins(a, b [][]int) bool {
	return (len(a) == 0 || len(b) == 0 || len(a[0]) == len(b[0])) && len(a)+len(b) <= 8
}

func TestP153JoinedPlansRestNoLongerThanTheirParts(t *testing.T) {
	rotas := someRotas()
	for i, a := range rotas {
		for j := i % 3; j < len(rotas); j += 3 {
			b := rotas[j]
			keptA, keptB := copyOf(a), copyOf(b)
			plan, ok := impl.RotaJoin(a, b)
			if ok != joins(a, b) || !ok && len(plan) != 0 {
				t.Fatal("joined", a, b, plan, ok)
			}
			if ok && (!samePlan(plan, slices.Concat(a, b)) || !impl.RotaValid(plan) || impl.RotaRest(plan) > min(impl.RotaRest(a), impl.RotaRest(b)) || impl.RotaRest(plan) != restIn(plan)) {
				t.Fatal("all years", a, b, plan)
			}
			checkOwnMemory(t, plan)
			if !samePlan(a, keptA) || !samePlan(b, keptB) {
				t.Fatal("changed", keptA, keptB, a, b)
			}
		}
	}
}

func TestP153JoinsLeaveTheRoomBehindTheirPartsAlone(t *testing.T) {
	years := [][]int{{1, 2}, {3, 4}, {5, 0}, {2, 1}}
	beds := []int{1, 2, 3, 4}
	for many := range 4 {
		kept := copyOf(years)
		plan, ok := impl.RotaJoin(years[:many], [][]int{beds[:2]})
		if !ok || len(plan) != many+1 || !samePlan(years, kept) {
			t.Fatal("room behind years", many, plan, years)
		}
		checkOwnMemory(t, plan)
		if !samePlan(years, kept) || !slices.Equal(beds, []int{1, 2, 3, 4}) {
			t.Fatal("room behind beds", many, years, beds)
		}
	}
	// The same plan twice, whose years are then twice in the result.
	plan, ok := impl.RotaJoin(years, years)
	if !ok || !samePlan(plan, slices.Concat(years, years)) {
		t.Fatal("twice", plan, ok)
	}
	checkOwnMemory(t, plan)
}

func TestP153KnownJoins(t *testing.T) {
	for _, known := range []struct {
		a, b [][]int
		want [][]int
		ok   bool
	}{
		{[][]int{{1, 2}}, [][]int{{1, 0}}, [][]int{{1, 2}, {1, 0}}, true}, {nil, nil, nil, true}, {[][]int{}, nil, nil, true}, {nil, [][]int{{3}}, [][]int{{3}}, true}, {[][]int{{3, 4}}, [][]int{}, [][]int{{3, 4}}, true}, {[][]int{{}}, [][]int{{}, {}}, [][]int{{}, {}, {}}, true},
		{[][]int{{1}}, [][]int{{1, 2}}, nil, false}, {[][]int{{1, 2}}, [][]int{{1}}, nil, false}, {[][]int{{}}, [][]int{{1}}, nil, false}, {[][]int{{1}}, [][]int{{}}, nil, false},
	} {
		if got, ok := impl.RotaJoin(known.a, known.b); ok != known.ok || !samePlan(got, known.want) {
			t.Error(known, got, ok)
		}
	}
	for years := range 12 {
		for more := range 12 {
			plan, ok := impl.RotaJoin(mixedRota(years, 2, 0, 6), mixedRota(more, 2, 1, 6))
			if ok != (years+more <= 8) || ok && len(plan) != years+more || !ok && len(plan) != 0 {
				t.Error("years", years, more, plan, ok)
			}
		}
	}
	for _, other := range otherRotas() {
		for _, plan := range [][][]int{nil, {{}}, {{1}}, {{1, 2}}, {{0, 1, 2, 3, 4, 5}}, other} {
			got, ok := impl.RotaJoin(plan, other)
			back, backOk := impl.RotaJoin(other, plan)
			if ok || backOk || len(got) != 0 || len(back) != 0 {
				t.Error("other plan", plan, other, got, back)
			}
		}
	}
}
