package tests

import (
	"math"
	"testing"

	"loop.example/sundials/impl"
)

func TestP4TurningBehindTurningIsTurning(t *testing.T) {
	all := append(smallWays(2), farWays()...)
	for _, a := range all {
		for _, b := range all {
			product := impl.WayTimes(a, b)
			if impl.WaySquare(product) != impl.WaySquare(a)*impl.WaySquare(b) || product != impl.WayTimes(b, a) {
				t.Fatal("square", a, b, product)
			}
			for _, c := range all {
				if impl.WayTimes(product, c) != impl.WayTimes(a, impl.WayTimes(b, c)) {
					t.Fatal("three ways", a, b, c)
				}
				if impl.WayTimes(impl.WayAdd(a, b), c) != impl.WayAdd(impl.WayTimes(a, c), impl.WayTimes(b, c)) {
					t.Fatal("sums", a, b, c)
				}
			}
		}
	}
}

func TestP4ProductsAreThoseOfNumbersWithTwoParts(t *testing.T) {
	all := append(smallWays(4), farWays()...)
	all = append(all, way(30000, -70000), way(-1001, 5000))
	for _, a := range all {
		for _, b := range all {
			z := complex(float64(a.East), float64(a.North)) * complex(float64(b.East), float64(b.North))
			if impl.WayTimes(a, b) != way(int(real(z)), int(imag(z))) {
				t.Fatal(a, b, impl.WayTimes(a, b))
			}
		}
	}
	for _, a := range append(all, longWays()...) {
		if impl.WayTimes(a, way(1, 0)) != a || impl.WayTimes(a, impl.Way{}) != (impl.Way{}) {
			t.Error("whole and nothing", a)
		}
	}
	if got := impl.WayTimes(way(3, 4), way(-1, 2)); got != way(-11, 2) {
		t.Error(got)
	}
	if got := impl.WayTimes(way(0, 1), way(0, 1)); got != way(-1, 0) {
		t.Error("two right angles", got)
	}
}

func TestP5BothProductsTogetherAreAll(t *testing.T) {
	all := append(smallWays(4), farWays()...)
	all = append(all, way(5000, -7000), way(-1001, 1))
	for _, a := range all {
		for _, b := range all {
			dot, cross := impl.Dot(a, b), impl.Cross(a, b)
			if dot*dot+cross*cross != impl.WaySquare(a)*impl.WaySquare(b) {
				t.Fatal(a, b, dot, cross)
			}
			// Turned back by the first one, the second one goes Dot to the east and Cross to the north.
			if impl.WayTimes(b, impl.WayFlip(a)) != way(dot, cross) {
				t.Fatal("turned back", a, b, dot, cross)
			}
		}
	}
	if impl.Dot(way(3, 4), way(-1, 2)) != 5 || impl.Dot(way(3, 4), way(-4, 3)) != 0 || impl.Dot(way(1000, 1000), way(-1000, -1000)) != -2000000 || impl.Dot(way(2000, 7), way(3, 0)) != 6000 {
		t.Error("Dot")
	}
}

func TestP64WaysCanBeTurnedByARightAngle(t *testing.T) {
	if impl.MaxWay != 1000 || impl.MaxWays != 8 {
		t.Error("constants", impl.MaxWay, impl.MaxWays)
	}
	numbers := nearInts(1000, -1000, 500)
	for _, east := range numbers {
		for _, north := range numbers {
			w := way(east, north)
			want := east >= -1000 && east <= 1000 && north >= -1000 && north <= 1000
			if impl.WayValid(w) != want || impl.WayValid(impl.WayTimes(w, way(0, 1))) != want {
				t.Error(w, impl.WayValid(w))
			}
		}
	}
	for _, w := range append(farWays(), impl.Way{}) {
		if !impl.WayValid(w) || !impl.WayValid(impl.WayTimes(w, way(0, 1))) {
			t.Error("valid way", w)
		}
	}
	for _, w := range longWays() {
		if impl.WayValid(w) {
			t.Error("long way", w)
		}
	}
}

func TestP65WaysAddUpInAnyOrder(t *testing.T) {
	all := append(smallWays(3), farWays()...)
	all = append(all, longWays()...)
	for _, a := range all {
		if impl.WayAdd(a, impl.Way{}) != a || impl.WayAdd(impl.Way{}, a) != a || impl.WayAdd(a, opposite(a)) != (impl.Way{}) {
			t.Error("with nothing", a)
		}
		for _, b := range all {
			sum := impl.WayAdd(a, b)
			if sum != impl.WayAdd(b, a) || sum.East-b.East != a.East || sum.North-b.North != a.North {
				t.Error(a, b, sum)
			}
		}
	}
	if impl.WayAdd(way(3, 4), way(-1, 2)) != way(2, 6) || impl.WayAdd(way(1000, -1000), way(1000, -1)) != way(2000, -1001) {
		t.Error("known sums")
	}
}

func TestP66AWayTimesItsMirrorGoesToTheEast(t *testing.T) {
	all := append(smallWays(4), farWays()...)
	for _, a := range append(all, longWays()...) {
		mirror := impl.WayFlip(a)
		if mirror.East != a.East || mirror.North != -a.North || impl.WayFlip(mirror) != a {
			t.Error("mirror", a, mirror)
		}
		if impl.WayTimes(a, mirror) != way(impl.WaySquare(a), 0) {
			t.Error("product", a, impl.WayTimes(a, mirror))
		}
	}
	if impl.WayFlip(way(3, 4)) != way(3, -4) || impl.WayFlip(way(-3, -4)) != way(-3, 4) || impl.WayFlip(impl.Way{}) != (impl.Way{}) {
		t.Error("known mirrors")
	}
}

func TestP67SquaresAreNeverLessThanNothing(t *testing.T) {
	for _, a := range append(smallWays(30), farWays()...) {
		square := impl.WaySquare(a)
		if square < 0 || square != impl.Dot(a, a) || (square == 0) != (a == impl.Way{}) {
			t.Error(a, square)
		}
		if math.Abs(math.Hypot(float64(a.East), float64(a.North))-math.Sqrt(float64(square))) > 1e-9 {
			t.Error("length", a, square)
		}
	}
	for w, want := range map[impl.Way]int{way(3, 4): 25, way(-3, 4): 25, way(1000, -1000): 2000000, way(0, -7): 49, way(1001, 0): 1002001, way(30000, 40000): 2500000000} {
		if impl.WaySquare(w) != want {
			t.Error(w, impl.WaySquare(w))
		}
	}
}

func TestP68LeftAndRight(t *testing.T) {
	all := append(smallWays(4), farWays()...)
	all = append(all, longWays()...)
	for _, a := range all {
		if impl.Cross(a, a) != 0 {
			t.Error("itself", a)
		}
		for _, b := range all {
			if impl.Cross(a, b) != -impl.Cross(b, a) {
				t.Error("exchanged", a, b)
			}
		}
		if impl.WayValid(a) && a != (impl.Way{}) && impl.Cross(a, impl.WayTimes(a, way(0, 1))) <= 0 {
			t.Error("on the left", a)
		}
	}
	if impl.Cross(way(3, 4), way(-1, 2)) != 10 || impl.Cross(way(1, 0), way(0, 1)) != 1 || impl.Cross(way(2, 3), way(-4, -6)) != 0 || impl.Cross(way(2000, 7), way(0, 3)) != 6000 {
		t.Error("known products")
	}
}

func TestP69NoGreaterRoot(t *testing.T) {
	const most = 1000000000
	for root := 0; root*root <= most; root++ {
		last := min((root+1)*(root+1)-1, most)
		for _, n := range []int{root * root, root*root + root, last} {
			if n <= last && impl.RootOf(n) != root {
				t.Fatal(n, impl.RootOf(n))
			}
		}
	}
	for n := range 5000 {
		root := impl.RootOf(n)
		if root < 0 || root*root > n || (root+1)*(root+1) <= n {
			t.Error(n, root)
		}
	}
	if impl.RootOf(most) != 31622 {
		t.Error("the greatest", impl.RootOf(most))
	}
}

func TestP69OtherNumbersHaveNoRoot(t *testing.T) {
	for _, n := range []int{math.MinInt, math.MinInt + 1, math.MinInt32, -1000000000, -4, -1, 1000000001, 31623 * 31623, math.MaxInt32, math.MaxInt - 1, math.MaxInt} {
		if impl.RootOf(n) != -1 {
			t.Error(n, impl.RootOf(n))
		}
	}
}
