package tests

import (
	"math"
	"slices"
	"testing"

	"loop.example/sundials/impl"
)

func plant(low, high int) impl.Plant {
	return impl.Plant{Low: low, High: high}
}

// garden has beds with hours of light, and plants that want some.
type garden struct {
	beds   []int
	plants []impl.Plant
}

// someGardens have up to six beds and plants: none, plants that no bed fits, beds that nobody likes, beds and plants that are the same, one want within the other, and mixed ones.
func someGardens() []garden {
	anything := plant(0, 16)
	list := []garden{
		{nil, nil}, {[]int{}, []impl.Plant{}}, {[]int{5}, nil}, {nil, []impl.Plant{anything}}, {[]int{0}, []impl.Plant{plant(0, 0)}}, {[]int{16}, []impl.Plant{plant(16, 16)}},
		{[]int{6, 4, 9}, []impl.Plant{plant(3, 9), plant(4, 4), plant(5, 6), plant(12, 14)}},
		// No bed fits: beside all beds, just so and by far, below and above them.
		{[]int{5, 7}, []impl.Plant{plant(6, 6), plant(0, 4), plant(8, 16)}}, {[]int{0, 16}, []impl.Plant{plant(1, 15)}}, {[]int{5, 7, 5}, []impl.Plant{plant(6, 6), plant(7, 9), plant(8, 16)}},
		// Whoever takes the first plant that fits leaves another one without a bed.
		{[]int{3, 8}, []impl.Plant{plant(0, 9), plant(2, 4)}}, {[]int{8, 3}, []impl.Plant{plant(0, 9), plant(2, 4)}}, {[]int{4, 5, 6}, []impl.Plant{plant(4, 6), plant(4, 5), plant(4, 4)}}, {[]int{6, 5, 4}, []impl.Plant{plant(4, 6), plant(5, 6), plant(6, 6)}},
		{[]int{1, 2, 3, 4, 5, 6}, []impl.Plant{plant(1, 6), plant(1, 5), plant(1, 4), plant(1, 3), plant(1, 2), plant(1, 1)}}, {[]int{6, 5, 4, 3, 2, 1}, []impl.Plant{plant(1, 6), plant(2, 5), plant(3, 4), plant(3, 3), plant(4, 4), plant(2, 6)}},
	}
	for many := range 7 {
		for other := range 7 {
			list = append(list, garden{slices.Repeat([]int{7}, many), slices.Repeat([]impl.Plant{plant(7, 7)}, other)}, garden{slices.Repeat([]int{0}, many), slices.Repeat([]impl.Plant{anything}, other)})
			for seed := range 12 {
				list = append(list, mixedGarden(seed+100*many+1000*other, many, other))
			}
		}
	}
	return list
}

// mixedGarden has some beds and plants as if by chance, where plants want a few hours or many.
func mixedGarden(seed, beds, plants int) garden {
	var g garden
	below := 3 + mixed(seed, 99, 15)
	for i := range beds {
		g.beds = append(g.beds, mixed(seed, i, below))
	}
	for i := range plants {
		low := mixed(seed, 20+i, below)
		g.plants = append(g.plants, plant(low, min(low+mixed(seed, 40+i, 1+seed%7), 16)))
	}
	return g
}

// eachGarden calls f for some gardens.
func eachGarden(t *testing.T, f func(g garden)) {
	t.Helper()
	for _, g := range someGardens() {
		beds, plants := slices.Clone(g.beds), slices.Clone(g.plants)
		f(g)
		if !slices.Equal(g.beds, beds) || !slices.Equal(g.plants, plants) {
			t.Error("changed", beds, plants, g)
		}
		if t.Failed() {
			t.FailNow()
		}
	}
}

// otherBeds are beds that are not valid, each for one reason.
func otherBeds() [][]int {
	list := [][]int{make([]int, 7), slices.Repeat([]int{16}, 7), slices.Repeat([]int{5}, 1000)}
	for _, n := range otherFrom(0, 16) {
		list = append(list, []int{n}, []int{n, 5}, []int{5, n}, []int{1, 2, 3, 4, 5, n})
	}
	return list
}

// otherPlants are plants that are not valid, each for one reason.
func otherPlants() [][]impl.Plant {
	fine := plant(2, 5)
	list := [][]impl.Plant{make([]impl.Plant, 7), slices.Repeat([]impl.Plant{fine}, 7), slices.Repeat([]impl.Plant{fine}, 1000)}
	wrong := []impl.Plant{plant(2, 1), plant(16, 15), plant(16, 0), plant(0, -1), plant(-1, -1), plant(-1, 0), plant(-1, 16), plant(0, 17), plant(16, 17), plant(17, 17), plant(17, 16), plant(math.MaxInt, math.MinInt)}
	for _, n := range otherFrom(0, 16) {
		wrong = append(wrong, plant(n, 5), plant(2, n), plant(n, n))
	}
	for _, one := range wrong {
		list = append(list, []impl.Plant{one}, []impl.Plant{one, fine}, []impl.Plant{fine, one}, append(slices.Repeat([]impl.Plant{fine}, 5), one))
	}
	return list
}

// otherGardens are gardens of which the beds or the plants are not valid, or both.
func otherGardens() []garden {
	var list []garden
	for _, beds := range otherBeds() {
		list = append(list, garden{beds, nil}, garden{beds, []impl.Plant{plant(0, 16)}}, garden{beds, []impl.Plant{plant(2, 1)}})
	}
	for _, plants := range otherPlants() {
		list = append(list, garden{nil, plants}, garden{[]int{5}, plants}, garden{[]int{2, 3, 4, 5, 0, 16}, plants}, garden{[]int{17}, plants})
	}
	return list
}

// fits reports whether a bed of a garden has the hours that a plant wants.
func (g garden) fits(i, bed int) bool {
	return g.plants[i].Low <= g.beds[bed] && g.beds[bed] <= g.plants[i].High
}

// isPlanted tells a list of beds by the plants that are in each bed.
func (g garden) isPlanted(in []int) bool {
	if len(in) != len(g.plants) {
		return false
	}
	plantsOf := map[int]int{}
	for i, bed := range in {
		plantsOf[bed]++
		if bed != -1 && (bed < 0 || bed >= len(g.beds) || plantsOf[bed] > 1 || !g.fits(i, bed)) {
			return false
		}
	}
	return true
}

// planted is how many entries of a list tell a bed.
func planted(in []int) int {
	count := 0
	for _, bed := range in {
		if bed >= 0 {
			count++
		}
	}
	return count
}

// eachPlanting calls f with every way to put plants into beds.
func (g garden) eachPlanting(f func(in []int)) {
	in := make([]int, len(g.plants))
	taken := map[int]bool{}
	var from func(i int)
	from = func(i int) {
		if i == len(in) {
			f(in)
			return
		}
		in[i] = -1
		from(i + 1)
		for bed := range g.beds {
			if g.fits(i, bed) && !taken[bed] {
				in[i], taken[bed] = bed, true
				from(i + 1)
				taken[bed] = false
			}
		}
	}
	from(0)
}

// most is the greatest number of plants in beds: each plant in turn gets a bed if those that are in one already can make room.
func (g garden) most() int {
	plantIn := map[int]int{}
	var settle func(i int, asked map[int]bool) bool
	settle = func(i int, asked map[int]bool) bool {
		for bed := range g.beds {
			if !g.fits(i, bed) || asked[bed] {
				continue
			}
			asked[bed] = true
			if other, full := plantIn[bed]; !full || settle(other, asked) {
				plantIn[bed] = i
				return true
			}
		}
		return false
	}
	count := 0
	for i := range g.plants {
		if settle(i, map[int]bool{}) {
			count++
		}
	}
	return count
}

// byTurns puts plants into beds as the document tells it: hours by hours, bed by bed, and end by end.
func (g garden) byTurns() []int {
	in := slices.Repeat([]int{-1}, len(g.plants))
	for hours := range 17 {
		for bed, has := range g.beds {
			if has == hours {
				g.giveTo(bed, in)
			}
		}
	}
	return in
}

func (g garden) giveTo(bed int, in []int) {
	for end := g.beds[bed]; end <= 16; end++ {
		for i, p := range g.plants {
			if p.High == end && p.Low <= g.beds[bed] && in[i] < 0 {
				in[i] = bed
				return
			}
		}
	}
}
