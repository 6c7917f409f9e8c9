package tests

import (
	"slices"
	"testing"

	"loop.example/sundials/impl"
)

func TestP96PlacesCanBeTurned(t *testing.T) {
	count := 0
	for _, p := range smallPlaces(60) {
		valid := impl.PlaceValid(p)
		if valid != (max(p.East, -p.East) <= 50 && max(p.North, -p.North) <= 50) {
			t.Error("valid", p, valid)
		}
		if valid && !impl.PlaceValid(place(-p.North, p.East)) {
			t.Error("turned", p)
		}
		if valid {
			count++
		}
	}
	if count != 101*101 {
		t.Error("so many", count)
	}
	for _, p := range otherPlaces() {
		if impl.PlaceValid(p) {
			t.Error("other place", p)
		}
	}
}

func TestP97BlocksHaveAWidth(t *testing.T) {
	for _, b := range append(someBlocks(), block(-50, 50, -50, 50, 30), block(49, 50, -50, -49, 1), block(-50, -49, 49, 50, 30)) {
		for height := -40; height <= 40; height++ {
			if impl.BlockValid(withHeight(b, height)) != (height >= 1 && height <= 30) {
				t.Error("height", b, height)
			}
		}
		for _, flat := range []impl.Block{
			block(b.West, b.West, b.South, b.North, b.Height), block(b.East, b.East, b.South, b.North, b.Height), block(b.West, b.East, b.North, b.North, b.Height), block(b.West, b.East, b.South, b.South, b.Height),
			block(b.East, b.West, b.South, b.North, b.Height), block(b.West, b.East, b.North, b.South, b.Height),
		} {
			if impl.BlockValid(flat) {
				t.Error("without a width", flat)
			}
		}
	}
	for low := -55; low <= 55; low++ {
		for high := -55; high <= 55; high++ {
			fine := low >= -50 && high <= 50 && low < high
			if impl.BlockValid(block(low, high, 3, 4, 5)) != fine || impl.BlockValid(block(-4, -3, low, high, 5)) != fine {
				t.Error("sides", low, high)
			}
		}
	}
	for _, b := range otherBlocks() {
		if impl.BlockValid(b) {
			t.Error("other block", b)
		}
	}
}

func TestP98TheSunIsAboveTheGround(t *testing.T) {
	count := 0
	for east := -22; east <= 22; east++ {
		for north := -22; north <= 22; north++ {
			for up := -22; up <= 22; up++ {
				valid := impl.RayValid(ray(east, north, up))
				if valid != (max(east, -east) <= 20 && max(north, -north) <= 20 && up > 0 && up <= 20) {
					t.Error("valid", east, north, up, valid)
				}
				if valid && (!impl.RayValid(ray(0, 0, up)) || impl.RayValid(ray(east, north, 0))) {
					t.Error("zenith and horizon", east, north, up)
				}
				if valid {
					count++
				}
			}
		}
	}
	if count != 41*41*20 {
		t.Error("so many", count)
	}
	for _, r := range otherRays() {
		if impl.RayValid(r) {
			t.Error("other direction", r)
		}
	}
}

func TestP99BlocksCanBeTornDown(t *testing.T) {
	if !impl.BlocksValid(nil) || !impl.BlocksValid([]impl.Block{}) {
		t.Error("without blocks")
	}
	for _, yard := range yards() {
		kept := slices.Clone(yard)
		if !impl.BlocksValid(yard) {
			t.Error("valid", yard)
		}
		for i := range yard {
			if !impl.BlocksValid(yard[1:]) || !impl.BlocksValid(slices.Delete(slices.Clone(yard), i, i+1)) {
				t.Error("torn down", yard, i)
			}
			for _, b := range otherBlocks() {
				changed := slices.Clone(yard)
				changed[i] = b
				if impl.BlocksValid(changed) {
					t.Error("other block", yard, i, b)
				}
			}
		}
		if !slices.Equal(yard, kept) {
			t.Error("changed", kept, yard)
		}
	}
	for many := range 20 {
		if impl.BlocksValid(slices.Repeat([]impl.Block{block(0, 1, 0, 1, 1)}, many)) != (many <= 5) {
			t.Error("so many", many)
		}
	}
	for _, yard := range otherYards() {
		if impl.BlocksValid(yard) {
			t.Error("other blocks", yard)
		}
	}
}

// tipAt is the shadow of a point, which has one.
func tipAt(t *testing.T, p impl.Place, height int, r impl.Ray) impl.Spot {
	t.Helper()
	s, ok := impl.TipOf(p, height, r)
	if !ok {
		t.Fatal("no shadow", p, height, r)
	}
	return s
}

func TestP100ShadowsGrowWithTheHeight(t *testing.T) {
	for _, p := range append(smallPlaces(2), place(50, 50), place(-50, 50), place(-50, -50), place(50, -50), place(17, -31)) {
		for _, r := range someRays() {
			if s := tipAt(t, p, 0, r); s != spot(p.East*r.Up, p.North*r.Up, r.Up) || !impl.SameSpot(s, spot(p.East, p.North, 1)) {
				t.Error("on the ground", p, r, s)
			}
			for height := 0; height <= 30; height++ {
				s := tipAt(t, p, height, r)
				awayEast, awayNorth := s.East-p.East*r.Up, s.North-p.North*r.Up
				if s.Den != r.Up || awayEast != -r.East*height || awayNorth != -r.North*height {
					t.Error("shadow", p, height, r, s)
				}
				if 2*height <= 30 && tipAt(t, p, 2*height, r) != spot(p.East*r.Up+2*awayEast, p.North*r.Up+2*awayNorth, r.Up) {
					t.Error("twice as high", p, height, r)
				}
				if twice := ray(2*r.East, 2*r.North, 2*r.Up); impl.RayValid(twice) && !impl.SameSpot(tipAt(t, p, height, twice), s) {
					t.Error("twice as long", p, height, r)
				}
			}
		}
	}
	if s := tipAt(t, place(4, 2), 6, ray(0, 1, 2)); s != spot(8, -2, 2) {
		t.Error("known shadow", s)
	}
}

func TestP100OtherPointsHaveNoShadow(t *testing.T) {
	check := func(p impl.Place, height int, r impl.Ray) {
		if s, ok := impl.TipOf(p, height, r); ok || s != (impl.Spot{}) {
			t.Error(p, height, r, s, ok)
		}
	}
	for height := -1; height <= 31; height++ {
		for _, p := range otherPlaces() {
			check(p, height, ray(1, 2, 3))
		}
		for _, r := range otherRays() {
			check(place(1, 2), height, r)
		}
	}
	for _, height := range append(otherNumbers(30), -1, -2, -30) {
		for _, r := range append(otherRays(), ray(0, 0, 1), ray(20, 20, 20)) {
			check(place(0, 0), height, r)
			check(place(51, 0), height, r)
		}
	}
}

func TestP101FractionsOfPlacesCanBeStretched(t *testing.T) {
	var spots []impl.Spot
	for east := -4; east <= 4; east++ {
		for north := -4; north <= 4; north++ {
			for den := 1; den <= 4; den++ {
				spots = append(spots, spot(east, north, den))
			}
		}
	}
	for _, n := range []int{-1000000, -999999, -500000, 500000, 999999, 1000000} {
		spots = append(spots, spot(n, 1, 1), spot(1, n, 1000000), spot(n, n, 1000000), spot(n, -n, 999999), spot(n, 0, 500000))
	}
	for _, a := range spots {
		if !impl.SameSpot(a, a) {
			t.Error("itself", a)
		}
		twice := spot(2*a.East, 2*a.North, 2*a.Den)
		fits := max(twice.East, -twice.East, twice.North, -twice.North, twice.Den) <= 1000000
		if impl.SameSpot(a, twice) != fits || impl.SameSpot(twice, a) != fits {
			t.Error("doubled", a)
		}
		for _, b := range spots {
			same := float64(a.East)/float64(a.Den) == float64(b.East)/float64(b.Den) && float64(a.North)/float64(a.Den) == float64(b.North)/float64(b.Den)
			if impl.SameSpot(a, b) != same || impl.SameSpot(b, a) != same {
				t.Error("both orders", a, b)
			}
		}
	}
}

func TestP101OtherSpotsAreNotTheSame(t *testing.T) {
	other := []impl.Spot{{}, spot(0, 0, -1), spot(1, 1, 0), spot(-2, 4, -2), spot(1, 1, -1000000)}
	for _, n := range otherNumbers(1000000) {
		other = append(other, spot(n, 0, 1), spot(0, n, 1), spot(n, n, 1), spot(0, 0, n), spot(1, 1, n), spot(n, n, n))
	}
	for _, a := range other {
		for _, b := range append(other, spot(0, 0, 1), spot(1, 1, 1), spot(-1, 2, 1)) {
			if impl.SameSpot(a, b) || impl.SameSpot(b, a) {
				t.Error(a, b)
			}
		}
	}
	for _, pair := range [][2]impl.Spot{
		{spot(1, 1, 1), spot(-1, -1, -1)}, {spot(1000000, 0, 1000000), spot(1000001, 0, 1000001)}, {spot(500001, 1, 1), spot(1000002, 2, 2)}, {spot(1, 2, 3), spot(1, 2, 4)},
		{spot(2, 4, 6), spot(1, 3, 3)}, {spot(2, 4, 6), spot(2, 2, 3)}, {spot(999999, 0, 1000000), spot(1, 0, 1)}, {spot(0, 999998, 999999), spot(0, 999999, 1000000)},
	} {
		if impl.SameSpot(pair[0], pair[1]) {
			t.Error("different", pair)
		}
	}
	for _, pair := range [][2]impl.Spot{
		{spot(500000, 1, 1), spot(1000000, 2, 2)}, {spot(-1000000, 1000000, 1000000), spot(-1, 1, 1)}, {spot(8, -2, 2), spot(4, -1, 1)}, {spot(0, 0, 1), spot(0, 0, 1000000)}, {spot(-6, 9, 15), spot(-4, 6, 10)},
	} {
		if !impl.SameSpot(pair[0], pair[1]) {
			t.Error("same", pair)
		}
	}
}

func TestP106FourRightAnglesAreAWholeTurn(t *testing.T) {
	for east := -20; east <= 20; east++ {
		for north := -20; north <= 20; north++ {
			for _, up := range []int{1, 2, 19, 20} {
				r := ray(east, north, up)
				turned := impl.RayTurn(r)
				if turned != ray(-north, east, up) || !impl.RayValid(turned) {
					t.Error("turned", r, turned)
				}
				if got := impl.RayTurn(impl.RayTurn(impl.RayTurn(turned))); got != r {
					t.Error("whole turn", r, got)
				}
			}
		}
	}
	for _, r := range otherRays() {
		if got := impl.RayTurn(r); got != (impl.Ray{}) {
			t.Error("other direction", r, got)
		}
	}
}

func TestP107PlacesComeBackToo(t *testing.T) {
	for _, p := range smallPlaces(50) {
		turned := impl.PlaceTurn(p)
		if turned != place(-p.North, p.East) || !impl.PlaceValid(turned) {
			t.Error("turned", p, turned)
		}
		if got := impl.PlaceTurn(impl.PlaceTurn(impl.PlaceTurn(turned))); got != p {
			t.Error("whole turn", p, got)
		}
	}
	for _, p := range otherPlaces() {
		if got := impl.PlaceTurn(p); got != (impl.Place{}) {
			t.Error("other place", p, got)
		}
	}
}

func TestP108BlocksComeBackAsWell(t *testing.T) {
	blocks := append(someBlocks(), block(-50, 50, -50, 50, 30), block(-50, -49, 49, 50, 1))
	for _, p := range smallPlaces(5) {
		blocks = append(blocks, block(p.East, p.East+3, p.North, p.North+1, 1+p.North*p.North))
	}
	for _, b := range blocks {
		turned := impl.BlockTurn(b)
		if turned != block(-b.North, -b.South, b.West, b.East, b.Height) || !impl.BlockValid(turned) {
			t.Error("turned", b, turned)
		}
		if got := impl.BlockTurn(impl.BlockTurn(impl.BlockTurn(turned))); got != b {
			t.Error("whole turn", b, got)
		}
		for _, p := range placesBeside(b) {
			if impl.UnderBlock(impl.PlaceTurn(p), turned) != impl.UnderBlock(p, b) {
				t.Error("under it", b, p)
			}
		}
	}
	for _, b := range otherBlocks() {
		if got := impl.BlockTurn(b); got != (impl.Block{}) {
			t.Error("other block", b, got)
		}
	}
}
