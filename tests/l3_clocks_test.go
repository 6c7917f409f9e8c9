package tests

import (
	"math"
	"testing"

	"loop.example/sundials/impl"
)

// minuteIn is the minute of the day at which it is, so many minutes from the beginning of some day.
func minuteIn(minutes int) int {
	for minutes < 0 {
		minutes += 1440
	}
	for minutes > 1439 {
		minutes -= 1440
	}
	return minutes
}

type clock struct {
	minute, day, longitude, zone int
}

func sunMinute(c clock) int {
	return impl.SunMinute(c.minute, c.day, c.longitude, c.zone)
}

func clockMinute(c clock) int {
	return impl.ClockMinute(c.minute, c.day, c.longitude, c.zone)
}

// eachClock calls f for clocks on every day, in every zone, with minutes and longitudes of both ends among them.
func eachClock(t *testing.T, f func(c clock)) {
	t.Helper()
	for day := 1; day <= 366; day++ {
		for zone := -12; zone <= 14; zone++ {
			for _, longitude := range []int{-180, -179, -77, -1, 0, 1, 15, 100, 179, 180} {
				for _, minute := range []int{0, 1, 359, 719, 720, 1000, 1438, 1439} {
					f(clock{minute, day, longitude, zone})
				}
			}
		}
		if t.Failed() {
			t.FailNow()
		}
	}
}

// otherClocks have one argument that is not valid, and all of them.
func otherClocks() []clock {
	var list []clock
	for _, minute := range otherMinutes() {
		list = append(list, clock{minute, 81, 15, 1}, clock{minute, 0, 181, 15})
	}
	for _, day := range otherDays() {
		list = append(list, clock{720, day, 15, 1}, clock{-1, day, -181, -13})
	}
	for _, longitude := range []int{math.MinInt, -360, -181, 181, 360, math.MaxInt} {
		list = append(list, clock{720, 81, longitude, 1}, clock{720, 81, longitude, 15})
	}
	for _, zone := range []int{math.MinInt, -14, -13, 15, 16, math.MaxInt} {
		list = append(list, clock{720, 81, 15, zone}, clock{1440, 81, 15, zone})
	}
	return list
}

func TestP13ClocksTellWhatSundialsTell(t *testing.T) {
	eachClock(t, func(c clock) {
		got := sunMinute(c)
		if got != minuteIn(c.minute+4*c.longitude-60*c.zone+impl.ClockError(c.day)) {
			t.Error("sundial", c, got)
		}
		if impl.ClockMinute(got, c.day, c.longitude, c.zone) != c.minute {
			t.Error("back", c, got)
		}
		if c.longitude < 180 && impl.SunMinute(c.minute, c.day, c.longitude+1, c.zone) != minuteIn(got+4) {
			t.Error("farther to the east", c, got)
		}
		if c.zone < 14 && impl.SunMinute(c.minute, c.day, c.longitude, c.zone+1) != minuteIn(got-60) {
			t.Error("next zone", c, got)
		}
	})
	for c, want := range map[clock]int{
		{720, 81, 15, 1}: 712, {0, 81, 0, 0}: 1432, {720, 307, 0, 0}: 736, {1439, 307, 0, 0}: 15, {720, 42, -5, -1}: 745,
		{0, 81, -180, 14}: 1312, {1439, 307, 180, -12}: 15, {0, 1, 180, -12}: 1436, {600, 366, 10, 1}: 576,
	} {
		if got := sunMinute(c); got != want {
			t.Error("known minute", c, got)
		}
	}
}

func TestP13OtherClocksTellNothing(t *testing.T) {
	for _, c := range otherClocks() {
		if got := sunMinute(c); got != -1 {
			t.Error(c, got)
		}
	}
}

func TestP84SundialsAreNearlyRight(t *testing.T) {
	for day := 1; day <= 366; day++ {
		got, b := impl.ClockError(day), yearAngle(day-81)
		if got < -20 || got > 20 || !isNearest(got, 9870*impl.Sine(2*b)-7530*impl.Cosine(b)-1500*impl.Sine(b)) {
			t.Error(day, got)
		}
		turn := 2 * math.Pi * float64(day-81) / 365
		real := 9.87*math.Sin(2*turn) - 7.53*math.Cos(turn) - 1.5*math.Sin(turn)
		if math.Abs(float64(got)-real) > 1 {
			t.Error("not nearly the error", day, got, real)
		}
	}
	// On the days 173 and 355 there is just half a unit over.
	for day, want := range map[int]int{
		1: -4, 40: -14, 42: -15, 80: -8, 81: -8, 82: -8, 105: 0, 134: 4, 166: 0, 172: -1, 173: -1, 180: -3, 207: -6,
		244: 0, 260: 6, 300: 16, 308: 16, 355: 2, 359: 0, 365: -3, 366: -4,
	} {
		if impl.ClockError(day) != want {
			t.Error("known error", day, impl.ClockError(day))
		}
	}
	for _, day := range otherDays() {
		if impl.ClockError(day) != 0 {
			t.Error("other day", day, impl.ClockError(day))
		}
	}
}

func TestP85SundialsTellWhatClocksTell(t *testing.T) {
	eachClock(t, func(c clock) {
		got := clockMinute(c)
		if got != minuteIn(c.minute-4*c.longitude+60*c.zone-impl.ClockError(c.day)) {
			t.Error("clock", c, got)
		}
		if impl.SunMinute(got, c.day, c.longitude, c.zone) != c.minute {
			t.Error("back", c, got)
		}
	})
	for minute := range 1440 {
		c := clock{minute, 200, -77, -5}
		if impl.SunMinute(clockMinute(c), 200, -77, -5) != minute || impl.ClockMinute(sunMinute(c), 200, -77, -5) != minute {
			t.Error("every minute", minute)
		}
	}
	for c, want := range map[clock]int{
		{712, 81, 15, 1}: 720, {1432, 81, 0, 0}: 0, {0, 81, 0, 0}: 8, {15, 307, 0, 0}: 1439, {0, 307, 0, 0}: 1424, {1312, 81, -180, 14}: 0,
	} {
		if got := clockMinute(c); got != want {
			t.Error("known minute", c, got)
		}
	}
}

func TestP85OtherSundialsTellNothing(t *testing.T) {
	for _, c := range otherClocks() {
		if got := clockMinute(c); got != -1 {
			t.Error(c, got)
		}
	}
}

func TestP86FourMinutesAreADegree(t *testing.T) {
	for minute := range 1440 {
		got := impl.HourAngle(minute)
		if got < -180 || got > 179 || float64(got) != math.Floor(float64(minute-720)/4) {
			t.Error(minute, got)
		}
		if minute < 1436 && impl.HourAngle(minute+4) != got+1 {
			t.Error("four minutes later", minute, got)
		}
	}
	for minute, want := range map[int]int{0: -180, 3: -180, 4: -179, 360: -90, 715: -2, 716: -1, 719: -1, 720: 0, 723: 0, 724: 1, 725: 1, 1080: 90, 1439: 179} {
		if impl.HourAngle(minute) != want {
			t.Error("known angle", minute, impl.HourAngle(minute))
		}
	}
	for _, minute := range otherMinutes() {
		if impl.HourAngle(minute) != -181 {
			t.Error("other minute", minute, impl.HourAngle(minute))
		}
	}
}
