package tests

import (
	"math"
	"testing"

	"loop.example/sundials/impl"
)

// skyHours are hour angles all round, a few degrees apart, and those about the quarters of the day.
func skyHours() []int {
	list := []int{-181, -179, -91, -90, -89, -1, 0, 1, 89, 90, 91, 179, 180, 181, 270, 360, 450}
	for hour := -180; hour < 180; hour += 13 {
		list = append(list, hour)
	}
	return list
}

func sunAt(t *testing.T, latitude, tilt, hour int) impl.Sun {
	t.Helper()
	sun, ok := impl.SunAt(latitude, tilt, hour)
	if !ok || impl.SunUp(latitude, tilt, hour) != sun.Up {
		t.Fatal("no sun, or SunUp is another", latitude, tilt, hour, sun, ok)
	}
	return sun
}

func TestP9MorningIsEveningMirrored(t *testing.T) {
	eachSky(t, func(latitude, tilt int) {
		for _, hour := range skyHours() {
			sun := sunAt(t, latitude, tilt, hour)
			if got := sunAt(t, latitude, tilt, -hour); got != (impl.Sun{East: -sun.East, North: sun.North, Up: sun.Up}) {
				t.Error("morning and evening", latitude, tilt, hour, sun, got)
			}
			if got := sunAt(t, -latitude, -tilt, hour); got != (impl.Sun{East: sun.East, North: -sun.North, Up: sun.Up}) {
				t.Error("other side of the earth", latitude, tilt, hour, sun, got)
			}
			all := float64(sun.East)*float64(sun.East) + float64(sun.North)*float64(sun.North) + float64(sun.Up)*float64(sun.Up)
			if all < 0.985e18 || all > 1.015e18 {
				t.Error("squares", latitude, tilt, hour, sun)
			}
		}
	})
}

// TestP9TheSunIsOneTurnedByTheLatitude turns what goes to the pole and to the equator by the latitude, as a way.
func TestP9TheSunIsOneTurnedByTheLatitude(t *testing.T) {
	eachSky(t, func(latitude, tilt int) {
		for _, hour := range skyHours() {
			ring := impl.WayTimes(way(impl.Cosine(tilt), 0), wayOfAngle(hour))
			here := impl.WayTimes(way(1000*impl.Sine(tilt), ring.East), wayOfAngle(latitude))
			if got := sunAt(t, latitude, tilt, hour); got != (impl.Sun{East: -1000 * ring.North, North: here.East, Up: here.North}) {
				t.Error(latitude, tilt, hour, got)
			}
		}
	})
}

func TestP9TheSunIsNearlyTheRealOne(t *testing.T) {
	degree := math.Pi / 180
	eachSky(t, func(latitude, tilt int) {
		sineHere, cosineHere := math.Sincos(float64(latitude) * degree)
		sineTilt, cosineTilt := math.Sincos(float64(tilt) * degree)
		for _, hour := range skyHours() {
			sineHour, cosineHour := math.Sincos(float64(hour) * degree)
			sun := sunAt(t, latitude, tilt, hour)
			for _, c := range []struct {
				got  int
				want float64
			}{
				{sun.East, -cosineTilt * sineHour},
				{sun.North, cosineHere*sineTilt - sineHere*cosineTilt*cosineHour},
				{sun.Up, sineHere*sineTilt + cosineHere*cosineTilt*cosineHour},
			} {
				if math.Abs(float64(c.got)-1e9*c.want) > 1e7 {
					t.Error(latitude, tilt, hour, sun, c.got, c.want)
				}
			}
		}
	})
}

func TestP9KnownSuns(t *testing.T) {
	for _, c := range []struct {
		latitude, tilt, hour int
		sun                  impl.Sun
	}{
		{0, 0, 0, impl.Sun{Up: 1000000000}},
		{0, 0, 90, impl.Sun{East: -1000000000}},
		{0, 0, -90, impl.Sun{East: 1000000000}},
		{0, 0, 180, impl.Sun{Up: -1000000000}},
		{30, 0, 60, impl.Sun{East: -865000000, North: -250000000, Up: 432500000}},
		{52, 23, 0, impl.Sun{North: -482960000, Up: 874304000}},
		{52, -23, 45, impl.Sun{East: -649520000, North: -752252240, Up: 90950800}},
		{-35, 10, -60, impl.Sun{East: 852025000, North: 425352500, Up: 302590000}},
		{45, 23, 100, impl.Sun{East: -906200000, North: 390418000, Up: 163086000}},
		{90, 23, 180, impl.Sun{North: 920000000, Up: 392000000}},
		{-90, -23, 5, impl.Sun{East: -80960000, North: 916320000, Up: 392000000}},
	} {
		if got := sunAt(t, c.latitude, c.tilt, c.hour); got != c.sun {
			t.Error(c, got)
		}
	}
	for hour := -180; hour <= 180; hour++ {
		if impl.SunUp(90, 7, hour) != 1000000*impl.Sine(7) || impl.SunUp(-90, 7, hour) != -1000000*impl.Sine(7) {
			t.Error("at the poles it is always as high", hour)
		}
	}
}

func TestP9WholeTurnsOfTheHourDoNotMatter(t *testing.T) {
	for _, hour := range someAngles() {
		for _, s := range []sky{{0, 0}, {52, 23}, {52, -23}, {-35, 10}, {90, 23}, {-90, 1}} {
			if sunAt(t, s.latitude, s.tilt, hour) != sunAt(t, s.latitude, s.tilt, turned(hour, 0)) {
				t.Error(s, hour)
			}
		}
	}
}

func TestP9OtherSkiesHaveNoSun(t *testing.T) {
	for _, s := range otherSkies() {
		for _, hour := range []int{math.MinInt, -180, 0, 45, 180, math.MaxInt} {
			if sun, ok := impl.SunAt(s.latitude, s.tilt, hour); ok || sun != (impl.Sun{}) || impl.SunUp(s.latitude, s.tilt, hour) != 0 {
				t.Error(s, hour, sun, ok)
			}
		}
	}
}

func TestP10NightIsDayMirrored(t *testing.T) {
	eachSky(t, func(latitude, tilt int) {
		for _, hour := range skyHours() {
			up := impl.SunUp(latitude, tilt, hour)
			if impl.SunUp(latitude, -tilt, hour+180) != -up || impl.SunUp(latitude, -tilt, hour-180) != -up {
				t.Error("opposite hour", latitude, tilt, hour, up)
			}
		}
		for hour := range 180 {
			if impl.SunUp(latitude, tilt, hour+1) > impl.SunUp(latitude, tilt, hour) {
				t.Error("it rises", latitude, tilt, hour)
			}
		}
	})
	for _, hour := range someAngles() {
		if impl.SunUp(52, -11, turned(hour, 180)) != -impl.SunUp(52, 11, hour) {
			t.Error("far hour", hour)
		}
	}
	if impl.SunUp(52, -11, 180) >= 0 || impl.SunUp(52, 11, 0) <= 0 || impl.SunUp(52, 11, 0) <= impl.SunUp(52, 11, 90) {
		t.Error("noon and midnight")
	}
}

func TestP77TheSkyIsTheSameOnBothSides(t *testing.T) {
	if impl.MaxTilt != 23 {
		t.Error("constant", impl.MaxTilt)
	}
	eachSky(t, func(latitude, tilt int) {
		if !impl.SkyValid(latitude, tilt) || !impl.SkyValid(-latitude, -tilt) {
			t.Error("valid", latitude, tilt)
		}
	})
	for _, s := range otherSkies() {
		if impl.SkyValid(s.latitude, s.tilt) || impl.SkyValid(-s.latitude, -s.tilt) {
			t.Error("not valid", s)
		}
	}
}

func TestP78TheTiltIsSmall(t *testing.T) {
	for day := 1; day <= 366; day++ {
		got := impl.TiltOf(day)
		if got < -23 || got > 23 || !isNearest(got, 23450*impl.Sine(yearAngle(day+284))) {
			t.Error(day, got)
		}
		real := 23.45 * math.Sin(2*math.Pi*float64(day+284)/365)
		if math.Abs(float64(got)-real) > 1 {
			t.Error("not nearly the tilt", day, got, real)
		}
		next := day%366 + 1
		if step := impl.TiltOf(next) - got; step < -1 || step > 1 {
			t.Error("step", day, step)
		}
	}
	if step := impl.TiltOf(1) - impl.TiltOf(365); step < -1 || step > 1 {
		t.Error("step behind a year of 365 days", step)
	}
	for day, want := range map[int]int{1: -23, 36: -17, 81: 0, 83: 0, 84: 1, 100: 7, 172: 23, 173: 23, 264: 0, 265: 0, 266: -1, 268: -2, 300: -14, 355: -23, 365: -23, 366: -23} {
		if impl.TiltOf(day) != want {
			t.Error("known tilt", day, impl.TiltOf(day))
		}
	}
	for _, day := range otherDays() {
		if impl.TiltOf(day) != 0 {
			t.Error("other day", day, impl.TiltOf(day))
		}
	}
}
