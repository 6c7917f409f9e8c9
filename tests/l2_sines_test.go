package tests

import (
	"math"
	"testing"

	"loop.example/sundials/impl"
)

func TestP8SinesComeBackWithTheOtherSign(t *testing.T) {
	for _, angle := range someAngles() {
		sine := impl.Sine(angle)
		if impl.Sine(turned(angle, 180)) != -sine || impl.Sine(180-turned(angle, 0)) != sine {
			t.Error("half a turn", angle, sine)
		}
		if impl.Sine(turned(angle, 0)) != sine || sine < -1000 || sine > 1000 {
			t.Error("whole turns", angle, sine)
		}
	}
	for angle := -1100; angle <= 1100; angle++ {
		if impl.Sine(angle+180) != -impl.Sine(angle) || impl.Sine(180-angle) != impl.Sine(angle) || impl.Sine(-angle) != -impl.Sine(angle) {
			t.Error("mirrors", angle)
		}
	}
	for angle := range 90 {
		if impl.Sine(angle+1) < impl.Sine(angle) {
			t.Error("less", angle+1)
		}
	}
}

func TestP8SinesAreThoseOfTheFormula(t *testing.T) {
	for x := range 181 {
		p := x * (180 - x)
		above, below, sine := 4000*p, 40500-p, impl.Sine(x)
		// The quotient is in the unit round the sine, from half a unit below it on.
		if 2*above < (2*sine-1)*below || 2*above >= (2*sine+1)*below {
			t.Error(x, sine)
		}
		if math.Abs(float64(sine)-1000*math.Sin(float64(x)*math.Pi/180)) > 2.5 {
			t.Error("not nearly the sine", x, sine)
		}
	}
	for angle, want := range map[int]int{0: 0, 1: 18, 30: 500, 45: 706, 60: 865, 90: 1000, 150: 500, 179: 18, 180: 0, 181: -18, 210: -500, 270: -1000, 359: -18, 360: 0, -1: -18, -90: -1000, -180: 0, -270: 1000, 390: 500} {
		if impl.Sine(angle) != want {
			t.Error("known sine", angle, impl.Sine(angle))
		}
	}
}

func TestP74WholeTurnsDoNotMatter(t *testing.T) {
	for _, angle := range someAngles() {
		got := impl.TurnOf(angle)
		if got != turned(angle, 0) || got < 0 || got > 359 {
			t.Error(angle, got)
		}
		if angle < math.MaxInt-360 && impl.TurnOf(angle+360) != got {
			t.Error("a turn more", angle)
		}
		if angle > math.MinInt+360 && (angle-got)%360 != 0 {
			t.Error("what is left", angle, got)
		}
	}
	for angle, want := range map[int]int{0: 0, 359: 359, 360: 0, 361: 1, -1: 359, -30: 330, -359: 1, -360: 0, -361: 359, 180: 180, -180: 180, 540: 180, math.MaxInt: 7, math.MinInt: 352} {
		if impl.TurnOf(angle) != want {
			t.Error("known angle", angle, impl.TurnOf(angle))
		}
	}
}

func TestP75CosinesAreSines(t *testing.T) {
	for _, angle := range someAngles() {
		cosine, sine := impl.Cosine(angle), impl.Sine(angle)
		if cosine != impl.Sine(turned(angle, 90)) || cosine != impl.Cosine(360-turned(angle, 0)) {
			t.Error(angle, cosine)
		}
		if all := cosine*cosine + sine*sine; all < 995000 || all > 1005000 {
			t.Error("together", angle, all)
		}
	}
	for angle := -1100; angle <= 1100; angle++ {
		if impl.Cosine(angle) != impl.Cosine(-angle) || impl.Cosine(angle) != impl.Sine(angle+90) {
			t.Error("other sign", angle)
		}
	}
	for angle, want := range map[int]int{0: 1000, 1: 1000, 60: 500, 89: 18, 90: 0, 91: -18, 120: -500, 180: -1000, 270: 0, 300: 500, 359: 1000, 360: 1000, -60: 500, -180: -1000} {
		if impl.Cosine(angle) != want {
			t.Error("known cosine", angle, impl.Cosine(angle))
		}
	}
}

func wayOfAngle(angle int) impl.Way {
	return way(impl.Cosine(angle), impl.Sine(angle))
}

// headingByAngles tells the least angle of which the way is not before another one.
func headingByAngles(w impl.Way) int {
	for angle := range 360 {
		if !before(wayOfAngle(angle), w) {
			return angle
		}
	}
	return 0
}

// edgeWays are the ways that end on the edge of the valid ones, so that they have most of the directions.
func edgeWays() []impl.Way {
	var list []impl.Way
	for n := -1000; n < 1000; n++ {
		list = append(list, way(1000, n), way(-n, 1000), way(-1000, -n), way(n, -1000))
	}
	return list
}

func TestP76HeadingsTellDirections(t *testing.T) {
	all := append(edgeWays(), goingWays()...)
	for angle := range 360 {
		all = append(all, wayOfAngle(angle))
	}
	for _, w := range all {
		got := impl.Heading(w)
		if got < 0 || got > 359 || got != headingByAngles(w) {
			t.Fatal(w, got)
		}
		if got == 0 {
			continue
		}
		if impl.RoundLess(wayOfAngle(got), w) {
			t.Fatal("before the way", w, got)
		}
		for lesser := range got {
			if !impl.RoundLess(wayOfAngle(lesser), w) {
				t.Fatal("a lesser angle", w, got, lesser)
			}
		}
	}
	for angle := range 360 {
		if impl.Heading(wayOfAngle(angle)) != angle {
			t.Error("its own angle", angle, impl.Heading(wayOfAngle(angle)))
		}
	}
}

func TestP76HeadingsOfStretchedWays(t *testing.T) {
	for _, w := range smallWays(10) {
		for _, times := range []int{2, 3, 10, 100} {
			if far := way(w.East*times, w.North*times); impl.Heading(far) != impl.Heading(w) {
				t.Error(w, times, impl.Heading(far))
			}
		}
	}
	for w, want := range map[impl.Way]int{
		way(3, 0): 0, way(0, 7): 90, way(-7, 0): 180, way(0, -7): 270, way(1000, 1): 1, way(1000, 18): 1, way(1000, 19): 2,
		way(1000, -19): 359, way(1000, -18): 359, way(1000, -17): 0, way(1000, -1): 0, way(-1000, 1): 180, way(-1000, -1): 181,
	} {
		if impl.Heading(w) != want {
			t.Error("known heading", w, impl.Heading(w))
		}
	}
}

func TestP76OtherWaysHaveNoHeading(t *testing.T) {
	for _, w := range noWays() {
		if impl.Heading(w) != -1 {
			t.Error(w, impl.Heading(w))
		}
	}
}
