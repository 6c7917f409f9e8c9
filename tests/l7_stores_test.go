package tests

import (
	"slices"
	"testing"

	"loop.example/sundials/impl"
)

// flows are all gains of a day together, and all needs.
func flows(day []impl.Hour) (gains, needs int) {
	for _, h := range day {
		gains += h.Gain
		needs += h.Need
	}
	return gains, needs
}

func TestP31NothingIsLostButWhatIsTold(t *testing.T) {
	eachStore(t, func(day []impl.Hour, holds, has int) {
		run, lack, lost := impl.StoreRun(day, holds, has), impl.StoreLack(day, holds, has), impl.StoreLost(day, holds, has)
		wantRun, wantLack, wantLost := storeByUnits(day, holds, has)
		if !slices.Equal(run, wantRun) || lack != wantLack || lost != wantLost {
			t.Fatal("by units", day, holds, has, run, lack, lost)
		}
		last := has
		if len(run) > 0 {
			last = run[len(run)-1]
		}
		if gains, needs := flows(day); has+gains+lack != last+needs+lost {
			t.Error("all together", day, holds, has, run, lack, lost)
		}
	})
}

func TestP31KnownStores(t *testing.T) {
	day := []impl.Hour{hourWith(5, 2), hourWith(0, 4), hourWith(1, 3)}
	for _, known := range []struct {
		day        []impl.Hour
		holds, has int
		want       []int
		lack, lost int
	}{
		{day, 4, 2, []int{4, 0, 0}, 2, 1}, {day, 6, 6, []int{6, 2, 0}, 0, 3}, {day, 0, 0, []int{0, 0, 0}, 6, 3}, {day, 200, 0, []int{3, 0, 0}, 3, 0}, {day, 200, 200, []int{200, 196, 194}, 0, 3}, {nil, 9, 4, nil, 0, 0},
		// Hours without a gain, without a need, and with as much of both.
		{[]impl.Hour{hourWith(0, 4)}, 9, 4, []int{0}, 0, 0}, {[]impl.Hour{hourWith(0, 5)}, 9, 4, []int{0}, 1, 0}, {[]impl.Hour{hourWith(5, 0)}, 9, 4, []int{9}, 0, 0}, {[]impl.Hour{hourWith(6, 0)}, 9, 4, []int{9}, 0, 1},
		{[]impl.Hour{hourWith(20, 20)}, 0, 0, []int{0}, 0, 0}, {[]impl.Hour{hourWith(20, 20)}, 3, 3, []int{3}, 0, 0}, {[]impl.Hour{hourWith(0, 0)}, 3, 2, []int{2}, 0, 0},
	} {
		run, lack, lost := impl.StoreRun(known.day, known.holds, known.has), impl.StoreLack(known.day, known.holds, known.has), impl.StoreLost(known.day, known.holds, known.has)
		if !slices.Equal(run, known.want) || lack != known.lack || lost != known.lost {
			t.Error(known, run, lack, lost)
		}
	}
}

func TestP31OtherStoresHaveNoRun(t *testing.T) {
	eachOtherStore(func(day []impl.Hour, holds, has int) {
		if run := impl.StoreRun(day, holds, has); len(run) != 0 {
			t.Error("run", day, holds, has, run)
		}
		if lack := impl.StoreLack(day, holds, has); lack != -1 {
			t.Error("lack", day, holds, has, lack)
		}
		if lost := impl.StoreLost(day, holds, has); lost != -1 {
			t.Error("lost", day, holds, has, lost)
		}
	})
}

func TestP32TheStoreThatIsEnoughIsAsGreatAsTheGreatestGap(t *testing.T) {
	for _, day := range plannedDays() {
		kept := slices.Clone(day)
		enough := impl.StoreFor(day)
		if enough != impl.StoreGap(day) || enough != greatestGap(day) {
			t.Error("gap", day, enough)
		}
		for _, holds := range []int{enough, enough + 1, 200} {
			if _, lack, _ := storeByUnits(day, holds, holds); holds <= 200 && (lack != 0 || impl.StoreLack(day, holds, holds) != 0) {
				t.Error("enough", day, holds)
			}
		}
		for less := range enough {
			if _, lack, _ := storeByUnits(day, less, less); lack == 0 || impl.StoreLack(day, less, less) != lack {
				t.Error("less", day, enough, less)
			}
		}
		if !slices.Equal(day, kept) {
			t.Fatal("changed", kept, day)
		}
	}
}

func TestP32KnownGaps(t *testing.T) {
	for _, known := range []struct {
		day  []impl.Hour
		want int
	}{
		{nil, 0}, {[]impl.Hour{hourWith(0, 0)}, 0}, {[]impl.Hour{hourWith(20, 0)}, 0}, {[]impl.Hour{hourWith(0, 20)}, 20}, {[]impl.Hour{hourWith(7, 7)}, 0}, {[]impl.Hour{hourWith(5, 2), hourWith(0, 4), hourWith(1, 3)}, 6},
		{slices.Repeat([]impl.Hour{hourWith(0, 20)}, 10), 200}, {slices.Repeat([]impl.Hour{hourWith(20, 0)}, 10), 0}, {slices.Repeat([]impl.Hour{hourWith(1, 20)}, 10), 190},
		// Two needs with a gain between them: less than the first need, as much, and more.
		{[]impl.Hour{hourWith(0, 3), hourWith(2, 0), hourWith(0, 3)}, 4}, {[]impl.Hour{hourWith(0, 3), hourWith(3, 0), hourWith(0, 3)}, 3}, {[]impl.Hour{hourWith(0, 3), hourWith(9, 0), hourWith(0, 4)}, 4}, {[]impl.Hour{hourWith(0, 5), hourWith(9, 0), hourWith(0, 4)}, 5},
	} {
		if impl.StoreFor(known.day) != known.want || impl.StoreGap(known.day) != known.want {
			t.Error(known, impl.StoreFor(known.day), impl.StoreGap(known.day))
		}
	}
	for _, day := range otherPlannedDays() {
		if impl.StoreFor(day) != -1 || impl.StoreGap(day) != -1 {
			t.Error("other day", day)
		}
	}
}

func TestP127HoursCanBeLeftOut(t *testing.T) {
	if !impl.HoursValid(nil) || !impl.HoursValid([]impl.Hour{}) {
		t.Error("without hours")
	}
	for _, day := range plannedDays() {
		if !impl.HoursValid(day) {
			t.Error("valid", day)
		}
		for i, h := range day {
			if !impl.HoursValid(day[1:]) || !impl.HoursValid(slices.Delete(slices.Clone(day), i, i+1)) {
				t.Error("an hour less", day, i)
			}
			for _, other := range []impl.Hour{hourWith(h.Gain, -1), hourWith(-1, h.Need), hourWith(h.Gain, 21), hourWith(21, h.Need)} {
				changed := slices.Clone(day)
				changed[i] = other
				if impl.HoursValid(changed) {
					t.Error("other hour", changed)
				}
			}
		}
	}
	for gain := -3; gain <= 23; gain++ {
		for need := -3; need <= 23; need++ {
			if impl.HoursValid([]impl.Hour{hourWith(gain, need)}) != (gain >= 0 && gain <= 20 && need >= 0 && need <= 20) {
				t.Error("one hour", gain, need)
			}
		}
	}
	for long := range 20 {
		if impl.HoursValid(make([]impl.Hour, long)) != (long <= 10) {
			t.Error("hours", long)
		}
	}
	for _, day := range otherPlannedDays() {
		if impl.HoursValid(day) {
			t.Error("other day", day)
		}
	}
}

func TestP128AStoreIsNeverFullerThanFull(t *testing.T) {
	eachStore(t, func(day []impl.Hour, holds, has int) {
		run := impl.StoreRun(day, holds, has)
		if len(run) != len(day) {
			t.Fatal("hours", day, run)
		}
		for i, is := range run {
			if is < 0 || is > holds {
				t.Error("fuller than full", day, holds, has, i, is)
			}
		}
		if has < holds {
			for i, is := range impl.StoreRun(day, holds, has+1) {
				if is < run[i] || is > run[i]+1 {
					t.Error("more at first", day, holds, has, i, is, run[i])
				}
			}
		}
		for i := range run {
			run[i] = -9
		}
		if again := impl.StoreRun(day, holds, has); slices.Contains(again, -9) {
			t.Error("shares memory", again)
		}
	})
}

func TestP129GreaterStoresNeverLackMore(t *testing.T) {
	eachStore(t, func(day []impl.Hour, holds, has int) {
		if holds == 200 {
			return
		}
		if impl.StoreLack(day, holds+1, has) > impl.StoreLack(day, holds, has) {
			t.Error("lacks", day, holds, has)
		}
		if impl.StoreLost(day, holds+1, has) > impl.StoreLost(day, holds, has) {
			t.Error("is lost", day, holds, has)
		}
	})
	day := []impl.Hour{hourWith(9, 0), hourWith(0, 9)}
	for holds := 0; holds <= 12; holds++ {
		if want := max(9-holds, 0); impl.StoreLack(day, holds, 0) != want || impl.StoreLost(day, holds, 0) != want {
			t.Error("known stores", holds, impl.StoreLack(day, holds, 0), impl.StoreLost(day, holds, 0))
		}
	}
}

func TestP130GapsOfPartsAreNoGreater(t *testing.T) {
	for _, day := range plannedDays() {
		gap := impl.StoreGap(day)
		for i := range day {
			if impl.StoreGap(day[i:]) > gap || impl.StoreGap(day[:i]) > gap {
				t.Error("part", day, i, gap)
			}
		}
		if gains, needs := flows(day); gap < 0 || gap < needs-gains {
			t.Error("all hours", day, gap)
		}
		// What comes before and behind without needs does not make it greater.
		if len(day) <= 8 && impl.StoreGap(slices.Concat([]impl.Hour{hourWith(20, 0)}, day, []impl.Hour{hourWith(3, 0)})) != gap {
			t.Error("with more gains", day, gap)
		}
	}
}
