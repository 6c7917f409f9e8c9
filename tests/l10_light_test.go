package tests

import (
	"math"
	"slices"
	"testing"

	"loop.example/sundials/impl"
)

func TestP44AFurtherBlockNeverMakesLight(t *testing.T) {
	lit, shadowed := 0, 0
	eachSite(t, 1, func(s impl.Site) {
		light := impl.SiteLight(s)
		if light != lightHere(s) || light < 0 || light > 100 {
			t.Error("light", s, light)
		}
		r, up := rayHere(s)
		if (light == 0) == up {
			t.Error("by night", s, light)
		}
		for i := range s.Blocks {
			if impl.SiteLight(withoutBlock(s, i)) < light {
				t.Error("torn down", s, i)
			}
		}
		if up && light == r.Up {
			shadowed++
		} else if up {
			lit++
		}
	})
	if lit < 100 || shadowed < 100 {
		t.Error("too few sites are lit, or in the shadow", lit, shadowed)
	}
}

// siteWhere is the known site at another latitude and time.
func siteWhere(latitude, day, minute int) impl.Site {
	s := knownSite()
	s.Latitude, s.Day, s.Minute = latitude, day, minute
	return s
}

func TestP44KnownLights(t *testing.T) {
	for _, known := range []struct {
		s      impl.Site
		blocks []impl.Block
		want   int
	}{
		{siteWhere(0, 81, 720), nil, 100}, {siteWhere(0, 81, 720), []impl.Block{block(0, 2, 0, 2, 9)}, 20}, {siteWhere(0, 81, 720), []impl.Block{block(1, 2, 1, 2, 1)}, 20}, {siteWhere(0, 81, 720), []impl.Block{block(2, 3, 1, 2, 30)}, 100},
		{siteWhere(0, 81, 720), []impl.Block{block(2, 3, 1, 2, 30), block(0, 2, 0, 2, 9)}, 20}, {siteWhere(0, 81, 0), nil, 0}, {siteWhere(0, 81, 0), []impl.Block{block(0, 2, 0, 2, 9)}, 0},
		// The sun so low that its light is the least one, lit and in the shadow, and just on the horizon.
		{siteWhere(-90, 78, 0), nil, 5}, {siteWhere(-90, 78, 0), []impl.Block{block(0, 2, 0, 2, 9)}, 1}, {siteWhere(-90, 80, 0), nil, 0}, {siteWhere(0, 81, 360), nil, 0}, {siteWhere(0, 81, 1080), nil, 0},
	} {
		known.s.Blocks = known.blocks
		if got := impl.SiteLight(known.s); got != known.want {
			t.Error(known, got)
		}
	}
	for _, s := range otherSites() {
		if got := impl.SiteLight(s); got != -1 {
			t.Error("other site", s, got)
		}
	}
}

func TestP158SitesCanBeEmpty(t *testing.T) {
	if !impl.SiteValid(knownSite()) {
		t.Error("known site")
	}
	eachSite(t, 1, func(s impl.Site) {
		if !impl.SiteValid(s) {
			t.Error("valid", s)
		}
		more := s
		if more.Has = s.Holds + 1; impl.SiteValid(more) {
			t.Error("more than it holds", more)
		}
		empty := s
		if empty.Has = 0; !impl.SiteValid(empty) {
			t.Error("nothing in it", empty)
		}
		if empty.Blocks = nil; !impl.SiteValid(empty) {
			t.Error("without blocks", empty)
		}
		if empty.Holds = 0; !impl.SiteValid(empty) {
			t.Error("holds nothing", empty)
		}
	})
	for _, s := range otherSites() {
		if impl.SiteValid(s) {
			t.Error("other site", s)
		}
	}
}

func TestP158BoundsOfSites(t *testing.T) {
	for _, bounds := range []struct {
		field       func(s *impl.Site) *int
		least, most int
	}{
		{func(s *impl.Site) *int { return &s.Latitude }, -90, 90}, {func(s *impl.Site) *int { return &s.Day }, 1, 365}, {func(s *impl.Site) *int { return &s.Holds }, 5, 200}, {func(s *impl.Site) *int { return &s.Has }, 0, 30},
		{func(s *impl.Site) *int { return &s.Need }, 0, 20}, {func(s *impl.Site) *int { return &s.Cover.Still }, 0, 20}, {func(s *impl.Site) *int { return &s.At.East }, -50, 50}, {func(s *impl.Site) *int { return &s.At.North }, -50, 50},
		{func(s *impl.Site) *int { return &s.Panel.East }, -10, 10}, {func(s *impl.Site) *int { return &s.Panel.Up }, 1, 10}, {func(s *impl.Site) *int { return &s.Bounds.Low }, 0, 59}, {func(s *impl.Site) *int { return &s.Bounds.High }, 31, 100},
	} {
		for n := -400; n <= 800; n++ {
			s := knownSite()
			*bounds.field(&s) = n
			if impl.SiteValid(s) != (n >= bounds.least && n <= bounds.most) {
				t.Error(s)
			}
		}
	}
	for minute := -1500; minute <= 3000; minute++ {
		if impl.SiteValid(siteWhere(0, 81, minute)) != (minute >= 0 && minute <= 1425 && minute%15 == 0) {
			t.Error("minute", minute)
		}
	}
	for many := range 9 {
		s := knownSite()
		s.Blocks = slices.Repeat([]impl.Block{block(0, 1, 0, 1, 1)}, many)
		if impl.SiteValid(s) != (many <= 5) {
			t.Error("blocks", many)
		}
	}
}

func TestP159ByNightThereIsNoDirection(t *testing.T) {
	check := func(s impl.Site) {
		t.Helper()
		r, ok := impl.SiteRay(s)
		want, up := rayHere(s)
		if r != want || ok != up {
			t.Error("direction", s, r, ok, want)
		}
		if ok && !impl.RayValid(r) || !ok && r != (impl.Ray{}) {
			t.Error("not valid", s, r, ok)
		}
		if above := impl.SunUp(s.Latitude, impl.TiltOf(s.Day), impl.HourAngle(s.Minute)) > 0; ok != above {
			t.Error("above the horizon", s, r, ok)
		}
	}
	eachSite(t, 1, check)
	for latitude := -90; latitude <= 90; latitude += 5 {
		for day := 1; day <= 365; day += 13 {
			for minute := 0; minute < 1440; minute += 15 {
				check(siteWhere(latitude, day, minute))
			}
		}
	}
}

func TestP159KnownDirections(t *testing.T) {
	for _, known := range []struct {
		latitude, day, minute int
		want                  impl.Ray
	}{
		{0, 81, 720, ray(0, 0, 20)}, {0, 81, 705, ray(1, 0, 20)}, {0, 81, 735, ray(-1, 0, 20)}, {0, 81, 0, impl.Ray{}}, {0, 81, 1425, impl.Ray{}},
		// Halves go up, so that they are not the same to both sides.
		{-90, 29, 120, ray(10, -16, 6)}, {-90, 29, 840, ray(-9, 16, 6)}, {-90, 29, 240, ray(16, -9, 6)}, {-90, 29, 480, ray(16, 10, 6)}, {-90, 55, 0, ray(0, -20, 4)},
		// Just above the horizon, on it, and just below it.
		{-90, 78, 0, ray(0, -20, 1)}, {-90, 80, 0, impl.Ray{}}, {-90, 84, 0, impl.Ray{}}, {0, 81, 360, impl.Ray{}}, {0, 81, 375, ray(20, 0, 1)},
		// By day at one pole it is night at the other one.
		{90, 172, 0, ray(0, 18, 8)}, {-90, 172, 0, impl.Ray{}}, {-90, 355, 720, ray(0, 18, 8)}, {90, 355, 720, impl.Ray{}},
	} {
		r, ok := impl.SiteRay(siteWhere(known.latitude, known.day, known.minute))
		if r != known.want || ok != (known.want != impl.Ray{}) {
			t.Error(known, r, ok)
		}
	}
	for _, s := range otherSites() {
		if r, ok := impl.SiteRay(s); ok || r != (impl.Ray{}) {
			t.Error("other site", s, r, ok)
		}
	}
}

func TestP160WhatIsGainedComesFromTheSun(t *testing.T) {
	gained := 0
	eachSite(t, 1, func(s impl.Site) {
		for _, f := range []impl.Face{s.Panel, face(0, 0, 10), face(10, 10, 10), face(-10, -10, 9), face(-3, 0, 1)} {
			s.Panel = f
			gain := impl.SiteGain(s)
			if gain != gainHere(s) || gain < 0 || gain > 20 {
				t.Error("gain", s, gain)
			}
			if r, up := rayHere(s); gain != 0 && (!up || !isLit(s.At, s.Blocks, r)) {
				t.Error("without sun", s, gain)
			}
			for i := range s.Blocks {
				if impl.SiteGain(withoutBlock(s, i)) < gain {
					t.Error("torn down", s, i)
				}
			}
			if gain > 0 {
				gained++
			}
		}
	})
	if gained < 1000 {
		t.Error("too few panels gain something", gained)
	}
}

func TestP160KnownGains(t *testing.T) {
	for _, known := range []struct {
		panel  impl.Face
		minute int
		want   int
	}{
		{face(0, 0, 10), 720, 10}, {face(0, 0, 1), 720, 1}, {face(10, 0, 0), 720, 0}, {face(10, 10, 10), 720, 10},
		// To the east 1 and up 20: looked at from the west it is less than a whole, or nothing.
		{face(1, 0, 1), 705, 1}, {face(-1, 0, 1), 705, 0}, {face(-1, 0, 0), 705, 0}, {face(10, 0, 0), 705, 0}, {face(10, 0, 1), 705, 1}, {face(-10, 0, 10), 705, 9}, {face(0, 0, 10), 0, 0}, {face(10, 0, 0), 375, 10}, {face(-10, 0, 10), 375, 0},
	} {
		s := siteWhere(0, 81, known.minute)
		s.Panel = known.panel
		if got := impl.SiteGain(s); got != known.want {
			t.Error(known, got)
		}
		s.Blocks = []impl.Block{block(40, 41, 40, 41, 1), block(0, 2, 0, 2, 9)}
		if got := impl.SiteGain(s); got != 0 {
			t.Error("in the shadow", known, got)
		}
	}
	for _, s := range otherSites() {
		if got := impl.SiteGain(s); got != -1 {
			t.Error("other site", s, got)
		}
	}
}

func TestP158SitesOfTheGreatestAndLeastNumbers(t *testing.T) {
	for _, n := range []int{math.MinInt, math.MaxInt} {
		s := impl.Site{Latitude: n, Day: n, Minute: n, Blocks: []impl.Block{block(n, n, n, n, n)}, At: place(n, n), Panel: face(n, n, n), Holds: n, Has: n, Need: n, Bounds: band(n, n), Cover: blind(true, n)}
		if impl.SiteValid(s) || impl.SiteLight(s) != -1 || impl.SiteGain(s) != -1 || !noSite(impl.SiteTick(s)) || len(impl.SiteLights(s, 5)) != 0 {
			t.Error(s)
		}
	}
}
