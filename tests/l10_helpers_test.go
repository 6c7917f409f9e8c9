package tests

import (
	"fmt"
	"math"
	"reflect"
	"slices"
	"testing"

	"loop.example/sundials/impl"
)

func tick(many int) impl.SiteDeed {
	return impl.SiteDeed{Kind: impl.SdTick, Count: many}
}

func build(b impl.Block) impl.SiteDeed {
	return impl.SiteDeed{Kind: impl.SdBuild, Body: b}
}

func tear(index int) impl.SiteDeed {
	return impl.SiteDeed{Kind: impl.SdTear, Count: index}
}

func move(to impl.Place) impl.SiteDeed {
	return impl.SiteDeed{Kind: impl.SdMove, To: to}
}

func look(at impl.Face) impl.SiteDeed {
	return impl.SiteDeed{Kind: impl.SdFace, Look: at}
}

// knownSite is the site of the document's examples.
func knownSite() impl.Site {
	return impl.Site{Day: 81, Minute: 705, At: place(1, 1), Panel: face(0, 0, 10), Holds: 30, Has: 5, Need: 2, Bounds: band(30, 60), Cover: blind(false, 5)}
}

// siteAt is a site at a latitude and a time, with all else as if by chance. Its blocks have room behind them, in which there are others.
func siteAt(latitude, day, minute int) impl.Site {
	seed := latitude*31 + day*7 + minute/15 + 4000
	choose := func(which, below int) int {
		return mixed(seed, which, below)
	}
	yard := yards()[choose(1, len(yards()))]
	blocks := slices.Concat(yard, slices.Repeat([]impl.Block{block(-9, 9, -9, 9, 9)}, 3))[:len(yard)]
	places := []impl.Place{place(1, 1), place(0, -3), place(5, 5), place(-9, 0), place(2, 3), place(-2, 4), place(7, -4), place(39, 41), place(50, -50)}
	holds := []int{0, 1, 7, 30, 199, 200}[choose(2, 6)]
	return impl.Site{
		Latitude: latitude, Day: day, Minute: minute, Blocks: blocks,
		At:    places[choose(3, len(places))],
		Panel: someFaces()[choose(4, len(someFaces()))],
		Holds: holds, Has: choose(5, holds+1), Need: []int{0, 1, 2, 3, 5, 9, 20}[choose(6, 7)],
		Bounds: someBands()[choose(7, len(someBands()))],
		Cover:  blind(choose(8, 2) == 1, []int{0, 1, 2, 3, 19, 20}[choose(9, 6)]),
	}
}

// someSites are at the poles, at the equator and between them, in all seasons, at the ends of the day and of the year.
func someSites() []impl.Site {
	list := []impl.Site{knownSite()}
	for _, latitude := range []int{-90, -72, -66, -23, 0, 1, 12, 45, 52, 66, 67, 89, 90} {
		for _, day := range []int{1, 29, 55, 78, 80, 81, 172, 264, 355, 364, 365} {
			for _, minute := range []int{0, 15, 120, 360, 375, 705, 720, 735, 840, 960, 1065, 1080, 1410, 1425} {
				list = append(list, siteAt(latitude, day, minute))
			}
		}
	}
	return list
}

// eachSite calls f for every so many of some sites, and sees to it that they do not change, nor what is behind their blocks.
func eachSite(t *testing.T, every int, f func(s impl.Site)) {
	t.Helper()
	for i, s := range someSites() {
		if i%every != 0 {
			continue
		}
		kept := slices.Clone(s.Blocks[:cap(s.Blocks)])
		f(s)
		if !slices.Equal(s.Blocks[:cap(s.Blocks)], kept) {
			t.Error("changed", kept, s)
		}
		if t.Failed() {
			t.FailNow()
		}
	}
}

// otherSites are sites that are not valid, each for one reason.
func otherSites() []impl.Site {
	list := []impl.Site{{}}
	with := func(change func(s *impl.Site)) {
		s := knownSite()
		change(&s)
		list = append(list, s)
	}
	withNumbers := func(numbers []int, field func(s *impl.Site) *int) {
		for _, n := range numbers {
			with(func(s *impl.Site) { *field(s) = n })
		}
	}
	withNumbers(otherFrom(-90, 90), func(s *impl.Site) *int { return &s.Latitude })
	withNumbers(otherFrom(1, 365), func(s *impl.Site) *int { return &s.Day })
	withNumbers(append(otherFrom(0, 1425), 1, 7, 14, 16, 719, 721, 1424, 1426, 1439, 1440, 1455, -15), func(s *impl.Site) *int { return &s.Minute })
	withNumbers(append(otherFrom(5, 200), 0, 4), func(s *impl.Site) *int { return &s.Holds })
	withNumbers(otherFrom(0, 30), func(s *impl.Site) *int { return &s.Has })
	withNumbers(otherFrom(0, 20), func(s *impl.Site) *int { return &s.Need })
	withNumbers(otherFrom(0, 20), func(s *impl.Site) *int { return &s.Cover.Still })
	for _, yard := range otherYards() {
		with(func(s *impl.Site) { s.Blocks = yard })
	}
	for _, p := range otherPlaces() {
		with(func(s *impl.Site) { s.At = p })
	}
	for _, f := range otherFaces() {
		with(func(s *impl.Site) { s.Panel = f })
	}
	for _, b := range otherBands() {
		with(func(s *impl.Site) { s.Bounds = b })
	}
	return list
}

// sameSite takes lists of no blocks for the same.
func sameSite(a, b impl.Site) bool {
	if !slices.Equal(a.Blocks, b.Blocks) {
		return false
	}
	a.Blocks, b.Blocks = nil, nil
	return reflect.DeepEqual(a, b)
}

func noSite(s impl.Site) bool {
	return sameSite(s, impl.Site{})
}

// copyOfSite is a site that shares no memory with another one.
func copyOfSite(s impl.Site) impl.Site {
	s.Blocks = slices.Clone(s.Blocks)
	return s
}

// checkOwnBlocks changes all blocks of a result, and what may lie behind them, which a site that was an argument must not see.
func checkOwnBlocks(t *testing.T, s, result impl.Site) {
	t.Helper()
	kept := slices.Clone(s.Blocks[:cap(s.Blocks)])
	all := result.Blocks[:cap(result.Blocks)]
	for i := range all {
		all[i] = block(-7, -7, -7, -7, -7)
	}
	if !slices.Equal(s.Blocks[:cap(s.Blocks)], kept) {
		t.Error("shares memory", kept, s)
	}
}

// withoutBlock is the site without one of its blocks.
func withoutBlock(s impl.Site, index int) impl.Site {
	s.Blocks = slices.Delete(slices.Clone(s.Blocks), index, index+1)
	return s
}

// sunHere is where the sun is at a site.
func sunHere(s impl.Site) impl.Sun {
	angle := int(math.Floor(float64(s.Minute-720) / 4))
	sun, _ := impl.SunAt(s.Latitude, impl.TiltOf(s.Day), angle)
	return sun
}

// rayNumberOf is the number of a direction that is nearest to a number of the sun, the greater one of two.
func rayNumberOf(number, least int) int {
	best := least
	for n := least; n <= 20; n++ {
		if math.Abs(float64(number-n*50000000)) <= math.Abs(float64(number-best*50000000)) {
			best = n
		}
	}
	return best
}

// rayHere is the direction to the sun at a site, if it is up.
func rayHere(s impl.Site) (impl.Ray, bool) {
	sun := sunHere(s)
	if sun.Up <= 0 {
		return impl.Ray{}, false
	}
	return ray(rayNumberOf(sun.East, -20), rayNumberOf(sun.North, -20), rayNumberOf(sun.Up, 1)), true
}

// lightHere is the light at the place of a site, told by shadows as shapes.
func lightHere(s impl.Site) int {
	r, up := rayHere(s)
	if !up {
		return 0
	}
	light := r.Up
	if isLit(s.At, s.Blocks, r) {
		light += 4 * r.Up
	}
	return light
}

// gainHere is what the panel of a site gains, a unit for each whole twenty.
func gainHere(s impl.Site) int {
	r, up := rayHere(s)
	if !up || !isLit(s.At, s.Blocks, r) {
		return 0
	}
	gain := 0
	for left := gainBySquares(s.Panel, r); left >= 20 && gain < 20; left -= 20 {
		gain++
	}
	return gain
}

// afterQuarters is a site so many quarters later: its time by a count of all quarters of a year, its store by units, and its blind by when it moved last.
func afterQuarters(s impl.Site, many int) impl.Site {
	s = copyOfSite(s)
	first := (s.Day-1)*96 + s.Minute/15
	var lights []int
	var hours []impl.Hour
	for quarter := 1; quarter <= many; quarter++ {
		all := (first + quarter) % (365 * 96)
		s.Day, s.Minute = all/96+1, all%96*15
		lights = append(lights, lightHere(s))
		hours = append(hours, hourWith(gainHere(s), s.Need))
	}
	if many > 0 {
		run, _, _ := storeByUnits(hours, s.Holds, s.Has)
		s.Has = run[many-1]
		_, s.Cover = pausedRun(s.Cover, s.Bounds, 2, lights)
	}
	return s
}

// hasOnlyItsOwn reports whether a deed has nothing that is not named for its kind.
func hasOnlyItsOwn(d impl.SiteDeed) bool {
	counts, builds, moves, looks := d.Count != 0, d.Body != impl.Block{}, d.To != impl.Place{}, d.Look != impl.Face{}
	switch d.Kind {
	case impl.SdTick, impl.SdTear:
		return !builds && !moves && !looks
	case impl.SdBuild:
		return !counts && !moves && !looks
	case impl.SdMove:
		return !counts && !builds && !looks
	case impl.SdFace:
		return !counts && !builds && !moves
	}
	return false
}

// afterDeed is a site after a deed, and whether it can be done.
func afterDeed(s impl.Site, d impl.SiteDeed) (impl.Site, bool) {
	s = copyOfSite(s)
	if !hasOnlyItsOwn(d) {
		return s, false
	}
	switch d.Kind {
	case impl.SdTick:
		if d.Count >= 1 && d.Count <= 96 {
			return afterQuarters(s, d.Count), true
		}
	case impl.SdBuild:
		if len(s.Blocks) < 5 && impl.BlockValid(d.Body) {
			s.Blocks = append(s.Blocks, d.Body)
			return s, true
		}
	case impl.SdTear:
		if d.Count >= 0 && d.Count < len(s.Blocks) {
			return withoutBlock(s, d.Count), true
		}
	case impl.SdMove:
		if d.To != s.At && impl.PlaceValid(d.To) {
			s.At = d.To
			return s, true
		}
	case impl.SdFace:
		if d.Look != s.Panel && impl.FaceValid(d.Look) {
			s.Panel = d.Look
			return s, true
		}
	}
	return s, false
}

// someDeeds can be done at many sites.
func someDeeds() []impl.SiteDeed {
	list := []impl.SiteDeed{
		tick(1), tick(2), tick(5), tick(48), tick(95), tick(96), tear(0), tear(1), tear(2), tear(3), tear(4),
		move(place(1, 1)), move(place(0, 0)), move(place(0, -3)), move(place(-50, 50)), move(place(50, -50)),
		look(face(0, 0, 10)), look(face(0, 0, 1)), look(face(-10, 0, 0)), look(face(3, -4, 5)), look(face(10, -10, 10)),
		build(block(0, 2, 0, 2, 9)), build(block(0, 4, 0, 2, 6)), build(block(-50, 50, -50, 50, 30)), build(block(49, 50, -50, -49, 1)), build(block(-1, 0, 0, 1, 3)),
	}
	for _, yard := range yards()[:6] {
		for _, b := range yard {
			list = append(list, build(b))
		}
	}
	return list
}

// otherDeeds can be done nowhere: their numbers are not valid, or something that is not named is not nothing, or they are of no kind.
func otherDeeds() []impl.SiteDeed {
	list := []impl.SiteDeed{
		tick(0), tick(97), build(block(0, 0, 0, 1, 1)), look(face(0, 0, 0)), tear(5),
		{Kind: impl.SdBuild}, {Kind: impl.SdFace}, {Kind: impl.SdBuild, Count: 1},
	}
	for _, n := range otherFrom(1, 96) {
		list = append(list, tick(n))
	}
	for _, n := range otherFrom(0, 4) {
		list = append(list, tear(n))
	}
	for _, b := range otherBlocks() {
		list = append(list, build(b))
	}
	for _, p := range otherPlaces() {
		list = append(list, move(p))
	}
	for _, f := range otherFaces() {
		list = append(list, look(f))
	}
	for _, kind := range otherFrom(0, 4) {
		list = append(list, impl.SiteDeed{Kind: kind}, impl.SiteDeed{Kind: kind, Count: 1}, impl.SiteDeed{Kind: kind, Body: block(0, 2, 0, 2, 9)}, impl.SiteDeed{Kind: kind, To: place(3, 3)}, impl.SiteDeed{Kind: kind, Look: face(1, 1, 1)})
	}
	return append(list, mixedDeeds()...)
}

// mixedDeeds are deeds that have something that is not named for their kind, each number of it alone.
func mixedDeeds() []impl.SiteDeed {
	var list []impl.SiteDeed
	for _, n := range []int{1, -1, 3, math.MaxInt, math.MinInt} {
		for _, more := range []impl.SiteDeed{
			{Count: n},
			{Body: block(n, 0, 0, 0, 0)}, {Body: block(0, n, 0, 0, 0)}, {Body: block(0, 0, n, 0, 0)}, {Body: block(0, 0, 0, n, 0)}, {Body: block(0, 0, 0, 0, n)},
			{To: place(n, 0)}, {To: place(0, n)},
			{Look: face(n, 0, 0)}, {Look: face(0, n, 0)}, {Look: face(0, 0, n)},
		} {
			for _, d := range []impl.SiteDeed{tick(1), build(block(0, 2, 0, 2, 9)), tear(0), move(place(9, 9)), look(face(1, 2, 3))} {
				if more.Count != 0 {
					d.Count = more.Count
				}
				if more.Body != (impl.Block{}) {
					d.Body = more.Body
				}
				if more.To != (impl.Place{}) {
					d.To = more.To
				}
				if more.Look != (impl.Face{}) {
					d.Look = more.Look
				}
				if !hasOnlyItsOwn(d) {
					list = append(list, d)
				}
			}
		}
	}
	return list
}

// lineOfDeed is the text of a deed that has only what is named for its kind.
func lineOfDeed(d impl.SiteDeed) string {
	switch d.Kind {
	case impl.SdTick:
		return fmt.Sprintf("tick %d", d.Count)
	case impl.SdBuild:
		return fmt.Sprintf("build %d %d %d %d %d", d.Body.West, d.Body.East, d.Body.South, d.Body.North, d.Body.Height)
	case impl.SdTear:
		return fmt.Sprintf("tear %d", d.Count)
	case impl.SdMove:
		return fmt.Sprintf("move %d %d", d.To.East, d.To.North)
	case impl.SdFace:
		return fmt.Sprintf("face %d %d %d", d.Look.East, d.Look.North, d.Look.Up)
	}
	return "of no kind"
}

// deedsByChance are so many deeds, some of which can be done.
func deedsByChance(seed, many int) []impl.SiteDeed {
	some := someDeeds()
	var list []impl.SiteDeed
	for i := range many {
		switch mixed(seed, i, 4) {
		case 0:
			list = append(list, tick(mixed(seed, i+100, 7)))
		case 1:
			list = append(list, tear(mixed(seed, i+200, 3)))
		default:
			list = append(list, some[mixed(seed, i+300, len(some))])
		}
	}
	return list
}

// someJournals are lists of 0 to 40 deeds, some of which can be done.
func someJournals() [][]impl.SiteDeed {
	list := [][]impl.SiteDeed{nil, {}, {tick(1)}, {tick(0)}, {tear(0)}, {move(place(1, 1)), move(place(1, 1)), move(place(2, 2))}, slices.Repeat([]impl.SiteDeed{tick(96)}, 40), slices.Repeat([]impl.SiteDeed{build(block(0, 2, 0, 2, 9))}, 7)}
	for seed := range 30 {
		list = append(list, deedsByChance(seed, seed%9+1))
	}
	for seed := range 5 {
		list = append(list, deedsByChance(seed+50, 40), deedsByChance(seed+60, 39))
	}
	return list
}
