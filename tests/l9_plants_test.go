package tests

import (
	"math"
	"slices"
	"testing"

	"loop.example/sundials/impl"
)

func TestP39NoWayToPlantHasMoreInBeds(t *testing.T) {
	eachGarden(t, func(g garden) {
		most, reached := impl.PlantMost(g.beds, g.plants), false
		g.eachPlanting(func(in []int) {
			if !impl.PlantedOk(g.beds, g.plants, in) || impl.PlantedMany(g.beds, g.plants, in) != planted(in) || planted(in) > most {
				t.Error("more in beds", g, in, most)
			}
			for i, bed := range in {
				in[i] = -1
				if !impl.PlantedOk(g.beds, g.plants, in) || impl.PlantedMany(g.beds, g.plants, in) != planted(in) {
					t.Error("taken out", g, in)
				}
				in[i] = bed
			}
			reached = reached || planted(in) == most
		})
		if !reached || most != g.most() {
			t.Error("no way has so many", g, most)
		}
	})
}

func TestP39EveryListOfBeds(t *testing.T) {
	eachGarden(t, func(g garden) {
		if len(g.plants) > 3 || len(g.beds) > 4 {
			return
		}
		entries := []int{math.MinInt, -2, -1, 0, 1, 2, 3, 4, math.MaxInt}
		eachListOf(entries, min(len(g.plants)+1, 3), func(in []int) {
			kept := slices.Clone(in)
			ok, many, want := impl.PlantedOk(g.beds, g.plants, in), impl.PlantedMany(g.beds, g.plants, in), -1
			if g.isPlanted(in) {
				want = planted(in)
			}
			if ok != g.isPlanted(in) || many != want {
				t.Error("list", g, in, ok, many)
			}
			if !slices.Equal(in, kept) {
				t.Error("changed", kept, in)
			}
		})
	})
}

func TestP39KnownLists(t *testing.T) {
	g := garden{[]int{6, 4, 9}, []impl.Plant{plant(3, 9), plant(4, 4), plant(5, 6), plant(12, 14)}}
	for _, known := range []struct {
		in   []int
		many int
	}{
		{[]int{0, 1, -1, -1}, 2}, {[]int{2, 1, 0, -1}, 3}, {[]int{-1, -1, -1, -1}, 0}, {[]int{1, -1, 0, -1}, 2}, {[]int{2, -1, -1, -1}, 1},
		// A bed twice, a bed that is not wanted, and beds that there are not.
		{[]int{0, 0, -1, -1}, -1}, {[]int{0, 1, 0, -1}, -1}, {[]int{-1, 0, -1, -1}, -1}, {[]int{-1, 2, -1, -1}, -1}, {[]int{-1, -1, 1, -1}, -1}, {[]int{-1, -1, 2, -1}, -1}, {[]int{-1, -1, -1, 2}, -1}, {[]int{3, -1, -1, -1}, -1}, {[]int{-2, -1, -1, -1}, -1},
		// Not an entry for each plant.
		{nil, -1}, {[]int{0, 1, -1}, -1}, {[]int{0, 1, -1, -1, -1}, -1}, {[]int{2, 1, 0}, -1}, {[]int{2, 1, 0, -1, -1, -1, -1}, -1},
	} {
		if got := impl.PlantedMany(g.beds, g.plants, known.in); got != known.many || impl.PlantedOk(g.beds, g.plants, known.in) != (known.many >= 0) {
			t.Error(known, got)
		}
	}
	for _, bed := range otherFrom(-1, 2) {
		if in := []int{bed, -1, -1, -1}; impl.PlantedOk(g.beds, g.plants, in) || impl.PlantedMany(g.beds, g.plants, in) != -1 {
			t.Error("other bed", bed)
		}
	}
	if !impl.PlantedOk(nil, nil, nil) || !impl.PlantedOk([]int{3}, nil, []int{}) || impl.PlantedOk([]int{3}, nil, []int{-1}) || !impl.PlantedOk(nil, []impl.Plant{plant(0, 16)}, []int{-1}) || impl.PlantedOk(nil, []impl.Plant{plant(0, 16)}, []int{0}) {
		t.Error("no plants, and no beds")
	}
}

func TestP40WhoWantsTheLeastLightFirst(t *testing.T) {
	eachGarden(t, func(g garden) {
		in := impl.PlantBest(g.beds, g.plants)
		if !slices.Equal(in, g.byTurns()) {
			t.Error("by turns", g, in)
		}
		if !g.isPlanted(in) || !impl.PlantedOk(g.beds, g.plants, in) || planted(in) != g.most() || impl.PlantedMany(g.beds, g.plants, in) != impl.PlantMost(g.beds, g.plants) {
			t.Error("as many as can be", g, in)
		}
		for i := range in {
			in[i] = -9
		}
		if again := impl.PlantBest(g.beds, g.plants); !slices.Equal(again, g.byTurns()) {
			t.Error("shares memory", g, again)
		}
	})
}

func TestP40KnownBeds(t *testing.T) {
	for _, known := range []struct {
		g    garden
		want []int
	}{
		{garden{[]int{6, 4, 9}, []impl.Plant{plant(3, 9), plant(4, 4), plant(5, 6), plant(12, 14)}}, []int{2, 1, 0, -1}},
		// Plants that no bed fits, and beds that nobody likes.
		{garden{[]int{5, 7}, []impl.Plant{plant(6, 6), plant(0, 4), plant(8, 16)}}, []int{-1, -1, -1}}, {garden{[]int{0, 16, 8}, []impl.Plant{plant(1, 15)}}, []int{2}}, {garden{nil, []impl.Plant{plant(0, 16), plant(0, 0)}}, []int{-1, -1}}, {garden{[]int{1, 2, 3}, nil}, nil}, {garden{nil, nil}, nil},
		// The hours that are wanted have their ends.
		{garden{[]int{4, 9}, []impl.Plant{plant(4, 9)}}, []int{0}}, {garden{[]int{3, 9}, []impl.Plant{plant(4, 9)}}, []int{1}}, {garden{[]int{3, 10}, []impl.Plant{plant(4, 9)}}, []int{-1}}, {garden{[]int{0, 16}, []impl.Plant{plant(16, 16), plant(0, 0)}}, []int{1, 0}},
		// Beds with the same hours in their order, plants with the same end in theirs.
		{garden{[]int{5, 5, 5}, []impl.Plant{plant(5, 9), plant(0, 9), plant(5, 9)}}, []int{0, 1, 2}}, {garden{[]int{5, 5}, []impl.Plant{plant(0, 9), plant(1, 8), plant(5, 8)}}, []int{-1, 0, 1}}, {garden{[]int{9, 2, 9, 2}, []impl.Plant{plant(0, 16), plant(0, 16), plant(0, 16), plant(0, 16), plant(0, 16)}}, []int{1, 3, 0, 2, -1}},
		// The least end comes first, not the least beginning or the fewest hours.
		{garden{[]int{5}, []impl.Plant{plant(0, 7), plant(5, 8), plant(5, 6)}}, []int{-1, -1, 0}}, {garden{[]int{5}, []impl.Plant{plant(5, 6), plant(0, 5)}}, []int{-1, 0}}, {garden{[]int{8, 3}, []impl.Plant{plant(0, 9), plant(2, 4)}}, []int{0, 1}},
	} {
		if got := impl.PlantBest(known.g.beds, known.g.plants); !slices.Equal(got, known.want) {
			t.Error(known, got)
		}
	}
}

func TestP147BedsCanBeGivenUp(t *testing.T) {
	eachGarden(t, func(g garden) {
		if !impl.BedsValid(g.beds) {
			t.Error("beds", g)
		}
		for i := range g.beds {
			fewer := slices.Delete(slices.Clone(g.beds), i, i+1)
			if !impl.BedsValid(fewer) {
				t.Error("given up", g, i)
			}
			dark := slices.Clone(g.beds)
			dark[i] = -1
			if impl.BedsValid(dark) {
				t.Error("less light than none", dark)
			}
		}
	})
	for many := range 20 {
		if impl.BedsValid(make([]int, many)) != (many <= 6) {
			t.Error("beds", many)
		}
	}
	for hours := -20; hours <= 40; hours++ {
		if impl.BedsValid([]int{hours}) != (hours >= 0 && hours <= 16) {
			t.Error("hours", hours)
		}
	}
	for _, beds := range otherBeds() {
		if impl.BedsValid(beds) {
			t.Error("other beds", beds)
		}
	}
}

func TestP148PlantsCanBeGivenAway(t *testing.T) {
	eachGarden(t, func(g garden) {
		if !impl.PlantsValid(g.plants) {
			t.Error("plants", g)
		}
		for i, p := range g.plants {
			fewer := slices.Delete(slices.Clone(g.plants), i, i+1)
			if !impl.PlantsValid(fewer) {
				t.Error("given away", g, i)
			}
			less := slices.Clone(g.plants)
			less[i].High = p.Low - 1
			if impl.PlantsValid(less) {
				t.Error("wants less than it wants", less)
			}
		}
	})
	for low := -5; low <= 20; low++ {
		for high := -5; high <= 20; high++ {
			if impl.PlantsValid([]impl.Plant{plant(low, high)}) != (low >= 0 && low <= high && high <= 16) {
				t.Error("plant", low, high)
			}
		}
	}
	for many := range 20 {
		if impl.PlantsValid(make([]impl.Plant, many)) != (many <= 6) {
			t.Error("plants", many)
		}
	}
	for _, plants := range otherPlants() {
		if impl.PlantsValid(plants) {
			t.Error("other plants", plants)
		}
	}
}

func TestP149ThereAreNoMoreThanBedsAndPlants(t *testing.T) {
	eachGarden(t, func(g garden) {
		if most := impl.PlantMost(g.beds, g.plants); most < 0 || most > len(g.beds) || most > len(g.plants) {
			t.Error("more than beds or plants", g, most)
		}
		if impl.PlantMost(nil, g.plants) != 0 || impl.PlantMost(g.beds, nil) != 0 || impl.PlantMost([]int{}, g.plants) != 0 || impl.PlantMost(g.beds, []impl.Plant{}) != 0 {
			t.Error("a list of none", g)
		}
	})
}

func TestP149OtherGardensHaveNone(t *testing.T) {
	for _, g := range otherGardens() {
		if impl.PlantMost(g.beds, g.plants) != -1 || len(impl.PlantBest(g.beds, g.plants)) != 0 {
			t.Error("other garden", g)
		}
		for _, in := range [][]int{nil, {0}, slices.Repeat([]int{-1}, len(g.plants)), slices.Repeat([]int{0}, len(g.plants))} {
			if impl.PlantedOk(g.beds, g.plants, in) || impl.PlantedMany(g.beds, g.plants, in) != -1 {
				t.Error("other garden", g, in)
			}
		}
	}
}

func TestP150ABedMoreIsAPlantMoreAtMost(t *testing.T) {
	eachGarden(t, func(g garden) {
		most := impl.PlantMost(g.beds, g.plants)
		for i := range g.beds {
			fewer := garden{slices.Delete(slices.Clone(g.beds), i, i+1), g.plants}
			if less := impl.PlantMost(fewer.beds, g.plants); less != most && less != most-1 || less != fewer.most() {
				t.Error("without a bed", g, i, most, less)
			}
		}
		anything := slices.Repeat([]impl.Plant{plant(0, 16)}, len(g.plants))
		if impl.PlantMost(g.beds, anything) != min(len(g.beds), len(g.plants)) {
			t.Error("plants that want anything", g)
		}
	})
	// A bed more that somebody likes, and one that nobody likes.
	plants := []impl.Plant{plant(3, 5), plant(4, 8)}
	if impl.PlantMost([]int{4}, plants) != 1 || impl.PlantMost([]int{4, 8}, plants) != 2 || impl.PlantMost([]int{4, 9}, plants) != 1 || impl.PlantMost([]int{9, 2}, plants) != 0 {
		t.Error("a bed more")
	}
}
