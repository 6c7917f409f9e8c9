package tests

import (
	"slices"
	"testing"

	"loop.example/sundials/impl"
)

func TestP102UnderABlockThereIsAlwaysShadow(t *testing.T) {
	rays := someRays()
	for _, b := range someBlocks() {
		for _, p := range placesBeside(b) {
			under := impl.UnderBlock(p, b)
			if under != isUnder(p, b) || under != impl.UnderBlock(p, withHeight(b, 1)) {
				t.Error("under", p, b, under)
			}
			for _, r := range rays {
				in := impl.InShadow(p, b, r)
				if under && !in || in && !under && r.East == 0 && r.North == 0 {
					t.Error("shadow", p, b, r, in)
				}
			}
		}
	}
	b := block(0, 4, 0, 2, 6)
	for p, want := range map[impl.Place]bool{
		place(0, 0): true, place(4, 0): true, place(0, 2): true, place(4, 2): true, place(2, 1): true, place(4, 1): true, place(3, 0): true,
		place(-1, 0): false, place(5, 0): false, place(0, -1): false, place(0, 3): false, place(5, 3): false, place(2, -1): false, place(-1, -1): false,
	} {
		if impl.UnderBlock(p, b) != want {
			t.Error("known place", p)
		}
	}
}

func TestP102NothingIsUnderOtherBlocks(t *testing.T) {
	for _, b := range append(otherBlocks(), someBlocks()...) {
		for _, p := range otherPlaces() {
			if impl.UnderBlock(p, b) {
				t.Error("other place", p, b)
			}
		}
	}
	for _, b := range otherBlocks() {
		for _, p := range append(smallPlaces(6), place(50, 50), place(-50, -50), place(50, 0)) {
			if impl.UnderBlock(p, b) {
				t.Error("other block", p, b)
			}
		}
	}
}

// smallPlaces are all places with numbers in -most..most.
func smallPlaces(most int) []impl.Place {
	var list []impl.Place
	for east := -most; east <= most; east++ {
		for north := -most; north <= most; north++ {
			list = append(list, place(east, north))
		}
	}
	return list
}

// yards are lists of 0 to 5 blocks, side by side, far away from each other, one in the other, and twice the same.
func yards() [][]impl.Block {
	a, b, c, d, e := block(0, 4, 0, 2, 6), block(4, 6, -3, 2, 2), block(-8, -7, -8, 8, 30), block(1, 2, 1, 2, 9), block(40, 50, 40, 50, 30)
	return [][]impl.Block{nil, {a}, {b}, {a, b}, {c, a}, {a, d}, {a, a}, {b, c, d}, {e, d, c, b}, {a, b, c, d, e}, {e, d, c, b, a}, {c, c, c, c, c}}
}

// isLit tells whether a place is in none of the shadows.
func isLit(p impl.Place, blocks []impl.Block, r impl.Ray) bool {
	for _, b := range blocks {
		if isShadowed(p, b, r) {
			return false
		}
	}
	return true
}

func TestP103AFurtherBlockNeverMakesLight(t *testing.T) {
	places := append(smallPlaces(9), place(50, 50), place(-50, 50), place(-50, -50), place(50, -50), place(39, 39), place(45, 30))
	for _, yard := range yards() {
		kept := slices.Clone(yard)
		for _, p := range places {
			for _, r := range fewRays() {
				lit := impl.Lit(p, yard, r)
				if lit != isLit(p, yard, r) {
					t.Fatal("lit", p, yard, r, lit)
				}
				for i := range yard {
					if lit && !impl.Lit(p, slices.Delete(slices.Clone(yard), i, i+1), r) {
						t.Fatal("a block less", p, yard, r, i)
					}
				}
			}
		}
		if !slices.Equal(yard, kept) {
			t.Fatal("changed", kept, yard)
		}
	}
	for _, p := range append(places, smallPlaces(50)...) {
		if !impl.Lit(p, nil, ray(-20, 3, 1)) || !impl.Lit(p, []impl.Block{}, ray(0, 0, 20)) {
			t.Fatal("without blocks", p)
		}
	}
}

// otherYards are lists of blocks that are not valid, though none of them is near to the places in the middle.
func otherYards() [][]impl.Block {
	far := block(40, 41, 40, 41, 1)
	list := [][]impl.Block{{far, far, far, far, far, far}, slices.Repeat([]impl.Block{far}, 1000)}
	for _, b := range otherBlocks() {
		list = append(list, []impl.Block{b}, []impl.Block{far, b}, []impl.Block{b, far, far}, []impl.Block{far, far, far, far, b})
	}
	return list
}

func TestP103OtherPlacesAreNotLit(t *testing.T) {
	for _, yard := range otherYards() {
		for _, r := range append(otherRays(), ray(0, 0, 1), ray(20, -20, 20)) {
			if impl.Lit(place(0, 0), yard, r) {
				t.Fatal("other blocks", yard, r)
			}
		}
	}
	for _, yard := range yards() {
		for _, r := range otherRays() {
			if impl.Lit(place(-20, 20), yard, r) {
				t.Fatal("other direction", yard, r)
			}
		}
		for _, p := range otherPlaces() {
			if impl.Lit(p, yard, ray(0, 0, 1)) {
				t.Fatal("other place", p, yard)
			}
		}
	}
}

func TestP104LightAddsUp(t *testing.T) {
	rays := append(fewRays(), ray(0, 0, 1), ray(0, 0, 1))
	keptRays := slices.Clone(rays)
	for _, yard := range yards() {
		kept := slices.Clone(yard)
		for _, p := range append(smallPlaces(8), place(-50, -50), place(50, 50)) {
			all, want := impl.RaysLit(p, yard, rays), 0
			for _, r := range rays {
				if isLit(p, yard, r) {
					want++
				}
			}
			if all != want {
				t.Fatal("so many", p, yard, all, want)
			}
			for _, cut := range []int{0, 1, 17, len(rays) - 1, len(rays)} {
				if impl.RaysLit(p, yard, rays[:cut])+impl.RaysLit(p, yard, rays[cut:]) != all {
					t.Fatal("two parts", p, yard, cut, all)
				}
			}
			for i := range yard {
				if impl.RaysLit(p, slices.Delete(slices.Clone(yard), i, i+1), rays) < all {
					t.Fatal("a block less", p, yard, i, all)
				}
			}
		}
		if !slices.Equal(yard, kept) || !slices.Equal(rays, keptRays) {
			t.Fatal("changed", kept, yard)
		}
	}
}

func TestP104KnownDirections(t *testing.T) {
	b := block(0, 4, 0, 2, 6)
	for _, scene := range []struct {
		rays []impl.Ray
		want int
	}{
		{nil, 0}, {[]impl.Ray{}, 0}, {[]impl.Ray{ray(0, 1, 2)}, 0}, {[]impl.Ray{ray(0, 1, 3)}, 1}, {[]impl.Ray{ray(0, 1, 2), ray(0, 1, 3), ray(0, -1, 1)}, 2},
		{slices.Repeat([]impl.Ray{ray(0, 1, 3)}, 1000), 1000}, {slices.Repeat([]impl.Ray{ray(0, 1, 1), ray(-20, 0, 1)}, 1000), 1000},
	} {
		if got := impl.RaysLit(place(1, -3), []impl.Block{b}, scene.rays); got != scene.want {
			t.Error(len(scene.rays), scene.want, got)
		}
	}
}

func TestP104OtherDirectionsAreNotCounted(t *testing.T) {
	fine := []impl.Ray{ray(0, 0, 1), ray(1, 1, 1), ray(-1, 2, 3)}
	for _, yard := range yards() {
		for _, r := range otherRays() {
			for at := range len(fine) + 1 {
				if got := impl.RaysLit(place(1, 1), yard, slices.Insert(slices.Clone(fine), at, r)); got != -1 {
					t.Fatal("other direction", yard, r, at, got)
				}
			}
		}
		for _, p := range otherPlaces() {
			if impl.RaysLit(p, yard, fine) != -1 || impl.RaysLit(p, yard, nil) != -1 {
				t.Fatal("other place", p, yard)
			}
		}
	}
	for _, yard := range otherYards() {
		if impl.RaysLit(place(0, 0), yard, fine) != -1 || impl.RaysLit(place(0, 0), yard, nil) != -1 {
			t.Fatal("other blocks", yard)
		}
	}
}

// isCast tells whether a corner of the foot of the second block is in the shadow of the first one.
func isCast(a, b impl.Block, r impl.Ray) bool {
	return isShadowed(place(b.West, b.South), a, r) || isShadowed(place(b.East, b.South), a, r) || isShadowed(place(b.East, b.North), a, r) || isShadowed(place(b.West, b.North), a, r)
}

func TestP105BlocksCastShadowsOntoThemselves(t *testing.T) {
	blocks := someBlocks()
	for _, p := range smallPlaces(9) {
		blocks = append(blocks, block(p.East, p.East+1, p.North, p.North+2, 1), block(p.East, p.East+9, p.North, p.North+1, 30))
	}
	for _, a := range append(someBlocks(), block(-2, 5, 3, 7, 12)) {
		for _, r := range fewRays() {
			if !impl.Casts(a, a, r) {
				t.Error("onto itself", a, r)
			}
			for _, b := range blocks {
				casts := impl.Casts(a, b, r)
				if casts != isCast(a, b, r) || casts != impl.Casts(a, withHeight(b, 7), r) {
					t.Fatal("casts", a, b, r, casts)
				}
				if casts && a.Height < 30 && !impl.Casts(withHeight(a, a.Height+1), b, r) {
					t.Fatal("higher", a, b, r)
				}
			}
		}
	}
}

func TestP105KnownBlocks(t *testing.T) {
	a, r := block(0, 4, 0, 2, 6), ray(0, 1, 2)
	for b, want := range map[impl.Block]bool{
		block(1, 2, -2, -1, 1): true, block(1, 2, 4, 5, 1): false, block(1, 2, -4, -3, 1): true, block(1, 2, -5, -4, 30): false,
		// Each of the four corners may be the only one in the shadow.
		block(4, 5, 2, 3, 1): true, block(-1, 0, 2, 3, 1): true, block(-1, 0, -4, -3, 1): true, block(4, 5, -4, -3, 1): true, block(5, 6, -1, 0, 30): false,
		// A foot that is greater than the shadow has all corners in the light, though the shadow falls onto it.
		block(-5, 9, -9, 9, 1): false, block(-1, 5, -2, -1, 1): false,
	} {
		if got := impl.Casts(a, b, r); got != want {
			t.Error(b, got)
		}
	}
	for _, r := range append(otherRays(), ray(0, 0, 1)) {
		for _, b := range otherBlocks() {
			if impl.Casts(b, b, r) || impl.Casts(a, b, r) || impl.Casts(b, a, r) {
				t.Error("other block", b, r)
			}
		}
	}
	for _, r := range otherRays() {
		if impl.Casts(a, a, r) {
			t.Error("other direction", r)
		}
	}
}
