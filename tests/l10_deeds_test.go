package tests

import (
	"math"
	"slices"
	"testing"

	"loop.example/sundials/impl"
)

// quartersBetween are the quarters of an hour from one site to another one, in 0..365*96-1.
func quartersBetween(from, to impl.Site) int {
	return ((to.Day-from.Day)*96 + (to.Minute-from.Minute)/15 + 365*96) % (365 * 96)
}

func TestP46WhateverIsDoneTimeGoesOnlyByTicks(t *testing.T) {
	eachSite(t, 97, func(s impl.Site) {
		for _, list := range someJournals() {
			kept := slices.Clone(list)
			last, count := impl.SiteRun(s, list)
			want, done, quarters := copyOfSite(s), 0, 0
			for _, d := range list {
				after, ok := afterDeed(want, d)
				want = after
				if ok {
					done++
				}
				if ok && d.Kind == impl.SdTick {
					quarters += d.Count
				}
			}
			if !sameSite(last, want) || count != done || !impl.SiteValid(last) {
				t.Error("run", s, list, last, count)
			}
			if quartersBetween(s, last) != quarters%(365*96) {
				t.Error("time", s, list, last)
			}
			for _, i := range []int{0, 1, len(list) / 2, len(list)} {
				middle, first := impl.SiteRun(s, list[:min(i, len(list))])
				end, second := impl.SiteRun(middle, list[min(i, len(list)):])
				if !sameSite(end, last) || first+second != count {
					t.Error("parts", s, list, i, end, first, second)
				}
			}
			checkOwnBlocks(t, s, last)
			if !slices.Equal(list, kept) {
				t.Error("changed", kept, list)
			}
		}
	})
}

func TestP46KnownRuns(t *testing.T) {
	s := knownSite()
	list := []impl.SiteDeed{tick(1), tear(0), move(place(9, 0)), move(place(9, 0)), build(block(0, 2, 0, 2, 9)), build(impl.Block{}), tear(0), look(face(0, 0, 10)), look(face(1, 0, 0)), tick(97), tick(0), tick(96)}
	last, count := impl.SiteRun(s, list)
	if count != 6 || last.Day != 82 || last.Minute != 720 || last.At != place(9, 0) || last.Panel != face(1, 0, 0) || len(last.Blocks) != 0 {
		t.Error(last, count)
	}
	for many := range 45 {
		got, done := impl.SiteRun(s, slices.Repeat([]impl.SiteDeed{tick(1)}, many))
		if many <= 40 && (!sameSite(got, afterQuarters(s, many)) || done != many) || many > 40 && (!noSite(got) || done != 0) {
			t.Error("so many", many, got, done)
		}
		// Deeds that cannot be done are counted here, too.
		got, done = impl.SiteRun(s, slices.Repeat([]impl.SiteDeed{tear(0)}, many))
		if many <= 40 && (!sameSite(got, s) || done != 0) || many > 40 && (!noSite(got) || done != 0) {
			t.Error("none can be done", many, got, done)
		}
	}
	if got, done := impl.SiteRun(s, make([]impl.SiteDeed, 5000)); !noSite(got) || done != 0 {
		t.Error("very many", got, done)
	}
	for _, other := range otherSites() {
		for _, list := range [][]impl.SiteDeed{nil, {tick(1)}, {move(place(2, 2)), look(face(1, 1, 1)), tear(0)}} {
			if got, done := impl.SiteRun(other, list); !noSite(got) || done != 0 {
				t.Error("other site", other, list, got, done)
			}
		}
	}
}

func TestP163DeedsKeepSitesValid(t *testing.T) {
	done := map[int]int{}
	eachSite(t, 11, func(s impl.Site) {
		for _, d := range someDeeds() {
			after, ok := impl.SiteDo(s, d)
			want, wantOk := afterDeed(s, d)
			if !sameSite(after, want) || ok != wantOk {
				t.Error("deed", s, d, after, ok)
			}
			if !impl.SiteValid(after) || after.Latitude != s.Latitude || sameSite(after, s) == ok {
				t.Error("valid and another one", s, d, after, ok)
			}
			if ok {
				done[d.Kind]++
			}
			if ok && d.Kind == impl.SdBuild {
				if back, torn := impl.SiteDo(after, tear(len(s.Blocks))); !torn || !sameSite(back, s) {
					t.Error("torn down again", s, d, back, torn)
				}
			}
			checkOwnBlocks(t, s, after)
		}
	})
	for kind := impl.SdTick; kind <= impl.SdFace; kind++ {
		if done[kind] < 100 {
			t.Error("too few of a kind can be done", kind, done)
		}
	}
}

func TestP163WhatCannotBeDoneChangesNothing(t *testing.T) {
	eachSite(t, 97, func(s impl.Site) {
		same := []impl.SiteDeed{move(s.At), look(s.Panel), tear(len(s.Blocks))}
		if len(s.Blocks) == 5 {
			same = append(same, build(block(0, 1, 0, 1, 1)))
		}
		for _, d := range append(same, otherDeeds()...) {
			after, ok := impl.SiteDo(s, d)
			if ok || !sameSite(after, s) {
				t.Error("cannot be done", s, d, after, ok)
			}
			checkOwnBlocks(t, s, after)
		}
	})
	for _, s := range otherSites() {
		for _, d := range []impl.SiteDeed{{}, tick(1), tick(0), build(block(0, 2, 0, 2, 9)), tear(0), move(place(9, 9)), look(face(1, 2, 3)), {Kind: 7}} {
			if after, ok := impl.SiteDo(s, d); ok || !noSite(after) {
				t.Error("other site", s, d, after, ok)
			}
		}
	}
}

func TestP163KnownDeeds(t *testing.T) {
	a, b, c, d, e := block(0, 4, 0, 2, 6), block(4, 6, -3, 2, 2), block(-8, -7, -8, 8, 30), block(1, 2, 1, 2, 9), block(40, 50, 40, 50, 30)
	s := knownSite()
	for _, known := range []struct {
		deed impl.SiteDeed
		ok   bool
		want []impl.Block
	}{
		{tear(0), false, nil}, {build(a), true, []impl.Block{a}}, {build(b), true, []impl.Block{a, b}}, {tear(2), false, []impl.Block{a, b}}, {tear(-1), false, []impl.Block{a, b}}, {build(c), true, []impl.Block{a, b, c}}, {tear(1), true, []impl.Block{a, c}}, {build(a), true, []impl.Block{a, c, a}},
		{build(d), true, []impl.Block{a, c, a, d}}, {build(e), true, []impl.Block{a, c, a, d, e}}, {build(b), false, []impl.Block{a, c, a, d, e}}, {tear(5), false, []impl.Block{a, c, a, d, e}}, {tear(4), true, []impl.Block{a, c, a, d}}, {tear(0), true, []impl.Block{c, a, d}}, {tear(math.MaxInt), false, []impl.Block{c, a, d}},
	} {
		after, ok := impl.SiteDo(s, known.deed)
		if ok != known.ok || !slices.Equal(after.Blocks, known.want) {
			t.Error(known, after, ok)
		}
		s = after
	}
	for many := -3; many <= 100; many++ {
		after, ok := impl.SiteDo(knownSite(), tick(many))
		want, may := knownSite(), many >= 1 && many <= 96
		if may {
			want = afterQuarters(want, many)
		}
		if ok != may || !sameSite(after, want) {
			t.Error("ticks", many, after, ok)
		}
	}
}

func TestP164TextsOfDeedsAreRead(t *testing.T) {
	check := func(d impl.SiteDeed) {
		t.Helper()
		text := impl.DeedText(d)
		if text != lineOfDeed(d) {
			t.Error("text", d, text)
		}
		if back, ok := impl.ReadDeed(text); !ok || back != d {
			t.Error("back", text, back, ok)
		}
	}
	for _, d := range someDeeds() {
		check(d)
	}
	for n := -999; n <= 999; n++ {
		for _, d := range []impl.SiteDeed{
			tick(n), tear(n), build(block(n, 0, 0, 0, 0)), build(block(1, n, -1, 0, 0)), build(block(0, 0, n, 20, 0)), build(block(0, 5, 0, n, 7)), build(block(0, 2, 0, 2, n)), build(block(n, n, n, n, n)),
			move(place(n, 0)), move(place(-999, n)), move(place(n, n)), look(face(n, 0, 0)), look(face(5, n, 5)), look(face(0, 0, n)), look(face(n, n, n)),
		} {
			check(d)
		}
	}
}

func TestP164KnownTextsOfDeeds(t *testing.T) {
	for text, d := range map[string]impl.SiteDeed{
		"tick 3": tick(3), "tick 0": {}, "tick -999": tick(-999), "tear 0": tear(0), "tear 12": tear(12), "build 0 2 -1 2 9": build(block(0, 2, -1, 2, 9)), "build 0 0 0 0 0": {Kind: impl.SdBuild}, "move -3 4": move(place(-3, 4)), "move 0 0": move(place(0, 0)), "face 1 2 3": look(face(1, 2, 3)), "face 0 0 -1": look(face(0, 0, -1)), "face 999 -999 100": look(face(999, -999, 100)),
	} {
		if got := impl.DeedText(d); got != text {
			t.Error("text", d, got)
		}
		if got, ok := impl.ReadDeed(text); !ok || got != d {
			t.Error("read", text, got, ok)
		}
	}
}

func TestP164OtherDeedsHaveNoText(t *testing.T) {
	for _, n := range otherFrom(-999, 999) {
		for _, d := range []impl.SiteDeed{
			tick(n), tear(n), build(block(n, 0, 0, 0, 0)), build(block(0, n, 0, 0, 0)), build(block(0, 0, n, 0, 0)), build(block(0, 0, 0, n, 0)), build(block(0, 0, 0, 0, n)), move(place(n, 0)), move(place(0, n)), look(face(n, 0, 0)), look(face(0, n, 0)), look(face(0, 0, n)),
		} {
			if text := impl.DeedText(d); text != "" {
				t.Error("number", d, text)
			}
		}
	}
	for _, kind := range otherFrom(0, 4) {
		for _, d := range []impl.SiteDeed{{Kind: kind}, {Kind: kind, Count: 1}, {Kind: kind, To: place(1, 1)}} {
			if text := impl.DeedText(d); text != "" {
				t.Error("kind", d, text)
			}
		}
	}
	for _, d := range mixedDeeds() {
		if text := impl.DeedText(d); text != "" {
			t.Error("something else", d, text)
		}
	}
}

// checkReadDeed tells a text that is read although it is not the text of its deed, or refused with a deed.
func checkReadDeed(t *testing.T, s string) {
	t.Helper()
	d, ok := impl.ReadDeed(s)
	if ok && (lineOfDeed(d) != s || impl.DeedText(d) != s || !hasOnlyItsOwn(d)) || !ok && d != (impl.SiteDeed{}) {
		t.Errorf("%q %v %v", s, d, ok)
	}
}

func TestP165ReadTextsOfDeedsAreCanonical(t *testing.T) {
	for _, text := range []string{"tick 31", "build 0 12 -1 20 9", "tear 0", "move -3 40", "face 10 -2 3"} {
		eachChangedText(text, func(s string) {
			checkReadDeed(t, s)
		})
	}
	for a := range 256 {
		for b := range 256 {
			pair := string([]byte{byte(a), byte(b)})
			checkReadDeed(t, "tick "+pair)
			checkReadDeed(t, "move "+pair+"1")
			checkReadDeed(t, "tear"+pair)
			checkReadDeed(t, pair)
		}
	}
	for _, d := range someDeeds() {
		text := impl.DeedText(d)
		for _, s := range []string{text + " ", " " + text, text + " 0", text + " 1", text + "\n", "\n" + text, text + ";", text + "\x00", text + " " + text, text + "\n" + text, text + ".0", text + "e0", text + "_0"} {
			if got, ok := impl.ReadDeed(s); ok || got != (impl.SiteDeed{}) {
				t.Errorf("%q %v %v", s, got, ok)
			}
		}
	}
}

func TestP165OtherTextsOfDeedsAreRefused(t *testing.T) {
	for _, s := range []string{
		"", " ", "  ", "tick", "tick ", "tick  3", " tick 3", "tick 3 ", "tick\t3", "tick,3", "tick3", "tick:3", "3 tick", "Tick 3", "TICK 3", "tic 3", "ticks 3", "tick x", "tick 03", "tick 00", "tick -0", "tick +3", "tick -", "tick --3", "tick 3-", "tick - 3", "tick 3.0", "tick 3e0", "tick 0x3", "tick 1_0", "tick ３", "tick 1000", "tick -1000", "tick 9223372036854775807", "tick 9223372036854775808", "tick -9223372036854775809", "tick 18446744073709551619", "tick 3 0", "tick 3 0 0 0 0",
		"build", "build ", "build 0 2 0 2", "build 0 2 0 2 ", "build 0 2 0 2 9 0", "build 0 2 0 2 9 9", "build 0 2  2 9", "build 0,2,0,2,9", "build 0 2 0 2 1000", "build -1000 2 0 2 9", "build 0 2 0 2 09", "build 0 2 -0 2 9",
		"tear", "tear ", "tear 0 0", "tear 00", "tear -00", "tear x", "move", "move 1", "move 1 ", "move 1 2 0", "move 1 2 3", "move 1,2", "move  1 2", "move 1000 0", "face", "face 1 2", "face 1 2 3 4", "face 1 2 ", "face 1 2 3 0", "face 0 0 1000", "look 1 2 3", "time", "light", "0", "0 3", "-1 3", "ok", "no", "what", "tick 3\n", "tick 3\r", "tick 3\ntick 3", "tick\n3", "tick 3;",
	} {
		if got, ok := impl.ReadDeed(s); ok || got != (impl.SiteDeed{}) {
			t.Errorf("%q %v %v", s, got, ok)
		}
	}
}
