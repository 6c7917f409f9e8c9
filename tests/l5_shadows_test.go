package tests

import (
	"slices"
	"testing"

	"loop.example/sundials/impl"
)

func TestP20HigherBlocksAndALowerSunNeverMakeLessShadow(t *testing.T) {
	eachScene(t, someRays(), func(p impl.Place, b impl.Block, r impl.Ray) {
		in := impl.InShadow(p, b, r)
		if in != isShadowed(p, b, r) {
			t.Error("shadow", p, b, r, in)
		}
		if in && b.Height < 30 && !impl.InShadow(p, withHeight(b, b.Height+1), r) {
			t.Error("higher", p, b, r)
		}
		if in && r.Up > 1 && !impl.InShadow(p, b, ray(r.East, r.North, r.Up-1)) {
			t.Error("lower sun", p, b, r)
		}
		if impl.InShadow(impl.PlaceTurn(p), impl.BlockTurn(b), impl.RayTurn(r)) != in {
			t.Error("turned", p, b, r)
		}
		if twice := ray(2*r.East, 2*r.North, 2*r.Up); impl.RayValid(twice) && impl.InShadow(p, b, twice) != in {
			t.Error("twice as far", p, b, r)
		}
	})
}

func TestP20KnownShadows(t *testing.T) {
	b := block(0, 4, 0, 2, 6)
	for _, scene := range []struct {
		p    impl.Place
		r    impl.Ray
		want bool
	}{
		{place(1, -3), ray(0, 1, 2), true}, {place(1, -4), ray(0, 1, 2), false}, {place(5, -1), ray(0, 1, 2), false}, {place(1, 3), ray(0, 1, 2), false},
		// Along the edges and through the corners.
		{place(0, -3), ray(0, 1, 2), true}, {place(-1, -3), ray(0, 1, 2), false}, {place(4, -1), ray(0, 1, 2), true}, {place(0, 5), ray(0, -1, 2), true}, {place(0, 6), ray(0, -1, 2), false},
		{place(-6, 2), ray(1, 0, 1), true}, {place(-6, 3), ray(1, 0, 1), false}, {place(-7, 2), ray(1, 0, 1), false}, {place(10, 0), ray(-1, 0, 1), true}, {place(11, 0), ray(-1, 0, 1), false},
		{place(-6, 8), ray(1, -1, 1), true}, {place(-6, 9), ray(1, -1, 1), false}, {place(-5, 8), ray(1, -1, 1), true}, {place(-7, 9), ray(1, -1, 1), false}, {place(7, 5), ray(-1, -1, 2), true}, {place(8, 6), ray(-1, -1, 2), false},
		{place(-1, 1), ray(1, 1, 6), true}, {place(-1, 1), ray(1, 1, 7), false}, {place(-1, 2), ray(1, 1, 1), false}, {place(5, 3), ray(-1, -1, 20), false}, {place(5, 3), ray(-1, -1, 6), true}, {place(5, 3), ray(-1, -1, 7), false},
		// The height is a fraction where the way enters the block: 2*19/7 and 2*19/6.
		{place(-2, 1), ray(7, 0, 19), true}, {place(-2, 1), ray(6, 0, 19), false}, {place(-2, 1), ray(6, 0, 18), true}, {place(-1, -2), ray(3, 5, 11), true}, {place(-1, -2), ray(3, 5, 19), false},
		// Behind the place the block makes no shadow, however low the sun is.
		{place(5, 1), ray(1, 0, 1), false}, {place(-1, 1), ray(-20, 0, 1), false}, {place(2, 3), ray(0, 20, 1), false}, {place(2, -1), ray(20, -20, 1), false},
		// Under the block, at its edges and in the zenith.
		{place(2, 1), ray(20, -20, 20), true}, {place(4, 2), ray(20, 20, 1), true}, {place(0, 0), ray(-20, -20, 1), true}, {place(0, 2), ray(0, 0, 20), true}, {place(4, 1), ray(0, 0, 1), true},
		{place(-1, 1), ray(0, 0, 1), false}, {place(5, 1), ray(0, 0, 20), false}, {place(2, 3), ray(0, 0, 1), false}, {place(2, -1), ray(0, 0, 20), false},
		{place(50, 50), ray(-20, -20, 1), true}, {place(-50, -50), ray(20, 20, 1), true}, {place(-50, 50), ray(20, -20, 1), true}, {place(-50, 50), ray(20, -17, 1), false},
	} {
		if got := impl.InShadow(scene.p, b, scene.r); got != scene.want {
			t.Error(scene.p, scene.r, got)
		}
	}
}

func TestP20OtherScenesHaveNoShadow(t *testing.T) {
	eachOtherScene(func(p impl.Place, b impl.Block, r impl.Ray) {
		if impl.InShadow(p, b, r) {
			t.Error(p, b, r)
		}
	})
}

func TestP21ShadowsOfTopsAreAsGreatAsTheTops(t *testing.T) {
	places := 0
	for _, b := range append(someBlocks(), block(-2, 5, 3, 7, 12), block(-20, -10, -1, 1, 20)) {
		corners := []impl.Place{place(b.West, b.South), place(b.East, b.South), place(b.East, b.North), place(b.West, b.North)}
		for _, r := range someRays() {
			list := impl.CornersOf(b, r)
			if len(list) != 4 {
				t.Fatal("so many", b, r, list)
			}
			wide, tall := (b.East-b.West)*r.Up, (b.North-b.South)*r.Up
			moved := spot(b.West*r.Up-r.East*b.Height, b.South*r.Up-r.North*b.Height, r.Up)
			if !slices.Equal(list, []impl.Spot{moved, spot(moved.East+wide, moved.North, r.Up), spot(moved.East+wide, moved.North+tall, r.Up), spot(moved.East, moved.North+tall, r.Up)}) {
				t.Error("moved", b, r, list)
			}
			for i, s := range list {
				if tip, ok := impl.TipOf(corners[i], b.Height, r); !ok || tip != s {
					t.Error("tip", b, r, i, s)
				}
				p := place(s.East/s.Den, s.North/s.Den)
				if s.East%s.Den == 0 && s.North%s.Den == 0 && impl.PlaceValid(p) {
					places++
					if !impl.InShadow(p, b, r) {
						t.Error("a corner in the light", b, r, p)
					}
				}
			}
		}
	}
	if places < 1000 {
		t.Error("corners that are places", places)
	}
}

func TestP21KnownCorners(t *testing.T) {
	b := block(0, 4, 0, 2, 6)
	for r, want := range map[impl.Ray][]impl.Spot{
		ray(0, 1, 2):     {spot(0, -6, 2), spot(8, -6, 2), spot(8, -2, 2), spot(0, -2, 2)},
		ray(0, 0, 1):     {spot(0, 0, 1), spot(4, 0, 1), spot(4, 2, 1), spot(0, 2, 1)},
		ray(20, -20, 20): {spot(-120, 120, 20), spot(-40, 120, 20), spot(-40, 160, 20), spot(-120, 160, 20)},
		ray(-3, 0, 7):    {spot(18, 0, 7), spot(46, 0, 7), spot(46, 14, 7), spot(18, 14, 7)},
	} {
		if got := impl.CornersOf(b, r); !slices.Equal(got, want) {
			t.Error(r, got)
		}
	}
	first := impl.CornersOf(b, ray(0, 1, 2))
	clear(first)
	if again := impl.CornersOf(b, ray(0, 1, 2)); again[0] != spot(0, -6, 2) {
		t.Error("memory shared", again)
	}
}

func TestP21OtherBlocksHaveNoCorners(t *testing.T) {
	for _, r := range append(otherRays(), ray(0, 0, 1), ray(1, -2, 3)) {
		for _, b := range otherBlocks() {
			if got := impl.CornersOf(b, r); len(got) != 0 {
				t.Error("other block", b, r, got)
			}
		}
	}
	for _, r := range otherRays() {
		for _, b := range someBlocks() {
			if got := impl.CornersOf(b, r); len(got) != 0 {
				t.Error("other direction", b, r, got)
			}
		}
	}
}

func TestP22ASunAsHighAsThisLightsThePlace(t *testing.T) {
	found := map[int]bool{}
	for _, b := range someBlocks() {
		for i, p := range placesBeside(b) {
			for _, r := range fewRays() {
				lowest := impl.LowestUp(p, b, r.East, r.North)
				found[lowest] = true
				if lowest == 0 || lowest < -1 || lowest > 20 || i%5 != 0 {
					continue
				}
				for up := 1; up <= 20; up++ {
					lit := lowest != -1 && up >= lowest
					if isShadowed(p, b, ray(r.East, r.North, up)) == lit || impl.InShadow(p, b, ray(r.East, r.North, up)) == lit {
						t.Fatal(p, b, r, up, lowest)
					}
				}
			}
		}
	}
	for lowest := -1; lowest <= 20; lowest++ {
		if found[lowest] != (lowest != 0) {
			t.Error("so low", lowest)
		}
	}
	if len(found) != 21 {
		t.Error("other numbers", found)
	}
}

func TestP22KnownHeightsOfTheSun(t *testing.T) {
	b := block(0, 4, 0, 2, 6)
	for _, scene := range []struct {
		p           impl.Place
		east, north int
		want        int
	}{
		{place(1, -3), 0, 1, 3}, {place(1, -1), 0, 1, 7}, {place(1, -1), 0, 20, -1}, {place(1, -1), 0, 3, 19}, {place(0, -7), 0, 1, 1}, {place(0, -6), 0, 1, 2}, {place(-1, -1), 1, 1, 7}, {place(-1, 1), 3, 0, 19},
		{place(-2, 1), 5, 0, 16}, {place(-2, 1), 7, 0, -1}, {place(1, 1), 0, 0, -1}, {place(1, 1), 20, -20, -1}, {place(4, 2), 1, 1, -1}, {place(5, 2), 0, 0, 1}, {place(5, 2), 1, 1, 1}, {place(5, 2), -1, 0, 7},
	} {
		if got := impl.LowestUp(scene.p, b, scene.east, scene.north); got != scene.want {
			t.Error(scene, got)
		}
	}
}

func TestP22OtherScenesHaveNoHeightOfTheSun(t *testing.T) {
	far, b := place(30, 30), block(0, 4, 0, 2, 6)
	for _, p := range otherPlaces() {
		if got := impl.LowestUp(p, b, 1, 1); got != -1 {
			t.Error("other place", p, got)
		}
	}
	for _, other := range otherBlocks() {
		if got := impl.LowestUp(far, other, 1, 1); got != -1 {
			t.Error("other block", other, got)
		}
	}
	for _, n := range otherNumbers(20) {
		for _, at := range [][2]int{{n, 0}, {0, n}, {n, n}, {n, -20}, {20, n}} {
			if got := impl.LowestUp(far, b, at[0], at[1]); got != -1 {
				t.Error("other direction", at, got)
			}
		}
	}
	for _, at := range [][2]int{{20, 20}, {-20, 20}, {20, -20}, {0, 0}} {
		if got := impl.LowestUp(place(-30, 30), b, at[0], at[1]); got < 1 {
			t.Error("at the end", at, got)
		}
	}
}

func TestP23SoHighItMayBeBuilt(t *testing.T) {
	found := map[int]bool{}
	eachScene(t, fewRays(), func(p impl.Place, b impl.Block, r impl.Ray) {
		most := impl.HeightFor(p, b, r)
		found[most] = true
		if isUnder(p, b) || most < 0 || most > 30 {
			if !isUnder(p, b) || most != -1 {
				t.Error("under the block", p, b, r, most)
			}
			return
		}
		for height := 1; height <= 30; height++ {
			if isShadowed(p, withHeight(b, height), r) == (height <= most) {
				t.Error("reference", p, b, r, most, height)
			}
		}
		if most > 0 && impl.InShadow(p, withHeight(b, most), r) || most < 30 && !impl.InShadow(p, withHeight(b, most+1), r) {
			t.Error("shadow", p, b, r, most)
		}
		if impl.HeightFor(p, withHeight(b, 1), r) != most || impl.HeightFor(p, withHeight(b, 30), r) != most {
			t.Error("built already", p, b, r, most)
		}
	})
	for height := -1; height <= 30; height++ {
		if !found[height] {
			t.Error("so high", height)
		}
	}
}

func TestP23KnownHeights(t *testing.T) {
	b := block(0, 4, 0, 2, 6)
	for _, scene := range []struct {
		p    impl.Place
		r    impl.Ray
		want int
	}{
		{place(1, -3), ray(0, 1, 2), 5}, {place(1, 1), ray(0, 1, 2), -1}, {place(4, 2), ray(1, 1, 1), -1}, {place(4, 2), ray(0, 0, 20), -1}, {place(5, 2), ray(0, 0, 20), 30}, {place(5, 2), ray(1, 0, 1), 30},
		{place(5, 2), ray(-1, 0, 1), 0}, {place(5, 2), ray(-20, 0, 20), 0}, {place(5, 2), ray(-19, 0, 20), 1}, {place(5, 2), ray(-1, 0, 20), 19}, {place(6, 2), ray(-1, 0, 15), 29}, {place(6, 2), ray(-1, 0, 16), 30},
		{place(34, 2), ray(-1, 0, 1), 29}, {place(35, 2), ray(-1, 0, 1), 30}, {place(-3, -3), ray(2, 2, 3), 4}, {place(1, -50), ray(0, 20, 1), 2},
	} {
		if got := impl.HeightFor(scene.p, b, scene.r); got != scene.want {
			t.Error(scene, got)
		}
	}
	eachOtherScene(func(p impl.Place, b impl.Block, r impl.Ray) {
		if got := impl.HeightFor(p, b, r); got != -1 {
			t.Error("other scene", p, b, r, got)
		}
	})
}
