package tests

import (
	"slices"
	"testing"

	"loop.example/sundials/impl"
)

func TestP45QuartersFollowEachOther(t *testing.T) {
	eachSite(t, 7, func(s impl.Site) {
		for _, many := range []int{0, 1, 2, 13, 48, 95, 96} {
			all := impl.SiteTicks(s, many)
			if !sameSite(all, afterQuarters(s, many)) {
				t.Error("quarters", s, many, all)
			}
			for _, first := range []int{0, 1, 7, 47, 95, 96} {
				if first <= many && !sameSite(impl.SiteTicks(impl.SiteTicks(s, first), many-first), all) {
					t.Error("parts", s, first, many)
				}
			}
		}
		if next := impl.SiteTicks(s, 96); next.Minute != s.Minute || next.Day != s.Day%365+1 {
			t.Error("a whole day", s, next)
		}
		checkOwnBlocks(t, s, impl.SiteTicks(s, 0))
		checkOwnBlocks(t, s, impl.SiteTicks(s, 2))
	})
}

func TestP45QuartersOneByOne(t *testing.T) {
	eachSite(t, 97, func(s impl.Site) {
		one := copyOfSite(s)
		for many := range 97 {
			if got := impl.SiteTicks(s, many); !sameSite(got, one) {
				t.Error("one by one", s, many, got, one)
			}
			one = impl.SiteTick(one)
		}
	})
}

func TestP45OtherQuartersLeadNowhere(t *testing.T) {
	for _, s := range otherSites() {
		for _, many := range []int{-1, 0, 1, 96, 97} {
			if got := impl.SiteTicks(s, many); !noSite(got) {
				t.Error("other site", s, many, got)
			}
		}
	}
	eachSite(t, 97, func(s impl.Site) {
		for _, many := range otherFrom(0, 96) {
			if got := impl.SiteTicks(s, many); !noSite(got) {
				t.Error("so many", s, many, got)
			}
		}
	})
}

func TestP161TimeGoesOn(t *testing.T) {
	eachSite(t, 1, func(s impl.Site) {
		next := impl.SiteTick(s)
		if !sameSite(next, afterQuarters(s, 1)) || !impl.SiteValid(next) {
			t.Error("next", s, next)
		}
		if later := (next.Day-s.Day)*1440 + next.Minute - s.Minute; later != 15 && later != 15-365*1440 {
			t.Error("time", s, next)
		}
		if run := impl.StoreRun([]impl.Hour{hourWith(impl.SiteGain(next), s.Need)}, s.Holds, s.Has); next.Has != run[0] {
			t.Error("store", s, next)
		}
		if next.Cover != impl.PauseStep(s.Cover, s.Bounds, 2, impl.SiteLight(next)) {
			t.Error("blind", s, next)
		}
		back := next
		back.Day, back.Minute, back.Has, back.Cover = s.Day, s.Minute, s.Has, s.Cover
		if !sameSite(back, s) {
			t.Error("something else", s, next)
		}
		checkOwnBlocks(t, s, next)
	})
	for _, s := range otherSites() {
		if got := impl.SiteTick(s); !noSite(got) {
			t.Error("other site", s, got)
		}
	}
}

func TestP161KnownTimes(t *testing.T) {
	for _, known := range []struct{ day, minute, nextDay, next int }{
		{81, 705, 81, 720}, {81, 0, 81, 15}, {1, 1410, 1, 1425}, {1, 1425, 2, 0}, {59, 1425, 60, 0}, {364, 1425, 365, 0}, {365, 1410, 365, 1425}, {365, 1425, 1, 0}, {365, 0, 365, 15},
	} {
		for _, latitude := range []int{-90, 0, 52, 90} {
			if got := impl.SiteTick(siteWhere(latitude, known.day, known.minute)); got.Day != known.nextDay || got.Minute != known.next || got.Latitude != latitude {
				t.Error(known, got)
			}
		}
	}
}

func TestP161KnownStores(t *testing.T) {
	// At noon 10 are gained, at midnight nothing.
	for _, known := range []struct{ minute, holds, has, need, want int }{
		{705, 30, 5, 2, 13}, {705, 0, 0, 2, 0}, {705, 0, 0, 0, 0}, {705, 0, 0, 20, 0}, {705, 30, 30, 0, 30}, {705, 30, 20, 0, 30}, {705, 30, 19, 0, 29}, {705, 30, 25, 7, 28}, {705, 3, 3, 10, 3}, {705, 3, 3, 12, 1}, {705, 3, 3, 20, 0}, {705, 200, 200, 9, 200}, {705, 200, 200, 11, 199},
		{0, 30, 5, 2, 3}, {0, 30, 5, 5, 0}, {0, 30, 5, 6, 0}, {0, 30, 0, 0, 0}, {0, 0, 0, 20, 0}, {0, 200, 200, 0, 200}, {1425, 30, 5, 2, 3},
	} {
		s := siteWhere(0, 81, known.minute)
		s.Holds, s.Has, s.Need = known.holds, known.has, known.need
		if got := impl.SiteTick(s); got.Has != known.want || got.Holds != known.holds || got.Need != known.need {
			t.Error(known, got)
		}
	}
}

func TestP161TheGainIsThatOfTheQuarterThatBegins(t *testing.T) {
	// The sun rises at 06:15, low in the east, and has set at 18:00: gain and light are those behind the quarter, not before it.
	s := siteWhere(0, 81, 360)
	s.Panel, s.Need, s.Bounds = face(10, 0, 0), 0, band(0, 5)
	if next := impl.SiteTick(s); next.Has != 15 || next.Cover != blind(true, 0) {
		t.Error("sunrise", next)
	}
	s.Minute, s.Panel, s.Cover = 1065, face(-10, 0, 0), blind(true, 2)
	if next := impl.SiteTick(s); impl.SiteGain(s) != 10 || impl.SiteLight(s) != 5 || next.Has != 5 || next.Cover != blind(false, 0) {
		t.Error("sunset", next)
	}
	s.Cover = blind(true, 1)
	if next := impl.SiteTick(s); next.Cover != blind(true, 2) {
		t.Error("within the pause", next)
	}
}

func TestP162LightsAreToldInOrder(t *testing.T) {
	eachSite(t, 7, func(s impl.Site) {
		for _, many := range []int{0, 1, 3, 50, 96} {
			lights := impl.SiteLights(s, many)
			if len(lights) != many {
				t.Fatal("so many", s, many, lights)
			}
			bare := s
			bare.Blocks = nil
			more := impl.SiteLights(bare, many)
			later := s
			for i, light := range lights {
				if later = afterQuarters(later, 1); light != lightHere(later) || i%10 == 0 && light != impl.SiteLight(impl.SiteTicks(s, i+1)) {
					t.Error("light", s, many, i, light)
				}
				if more[i] < light {
					t.Error("without blocks", s, many, i, light, more[i])
				}
			}
			kept := slices.Clone(lights)
			clear(lights)
			if again := impl.SiteLights(s, many); !slices.Equal(again, kept) {
				t.Error("shares memory", s, many, again)
			}
		}
	})
}

func TestP162KnownLights(t *testing.T) {
	s := knownSite()
	if got := impl.SiteLights(s, 2); !slices.Equal(got, []int{100, 100}) {
		t.Error("noon", got)
	}
	s.Minute = 345
	if got := impl.SiteLights(s, 3); !slices.Equal(got, []int{0, 5, 10}) {
		t.Error("sunrise", got)
	}
	s.Blocks = []impl.Block{block(0, 2, 0, 2, 9)}
	if got := impl.SiteLights(s, 3); !slices.Equal(got, []int{0, 1, 2}) {
		t.Error("in the shadow", got)
	}
	s.Day, s.Minute = 365, 1425
	if got := impl.SiteLights(s, 4); !slices.Equal(got, make([]int, 4)) {
		t.Error("the end of the year", got)
	}
	for _, many := range otherFrom(0, 96) {
		if got := impl.SiteLights(s, many); len(got) != 0 {
			t.Error("so many", many, got)
		}
	}
	for _, other := range otherSites() {
		for _, many := range []int{-1, 0, 1, 96} {
			if got := impl.SiteLights(other, many); len(got) != 0 {
				t.Error("other site", other, many, got)
			}
		}
	}
}
