package tests

import (
	"slices"
	"strings"
	"testing"

	"loop.example/sundials/impl"
)

// journalOf is the text of a journal, one line behind the other.
func journalOf(list []impl.SiteDeed) string {
	text := ""
	for _, d := range list {
		text += lineOfDeed(d) + "\n"
	}
	return text
}

func TestP47WhereverAJournalIsCutASiteOfBeforeIsFound(t *testing.T) {
	s := siteAt(45, 172, 660)
	for _, list := range someJournals() {
		text := journalOf(list)
		if len(text) > 600 {
			text = text[:600]
		}
		for cut := range len(text) + 1 {
			read, many := impl.ReadJournal(text[:cut])
			lines := strings.Count(text[:cut], "\n")
			if !slices.Equal(read, list[:lines]) || many != strings.LastIndex(text[:cut], "\n")+1 {
				t.Fatalf("cut %q %d %v %d", text, cut, read, many)
			}
			if impl.JournalText(read) != text[:many] {
				t.Fatalf("what was read %q %d", text, cut)
			}
		}
		read, _ := impl.ReadJournal(text)
		last, _ := impl.SiteRun(s, read)
		said := s
		for _, d := range read {
			said, _ = impl.SiteLine(said, impl.DeedText(d))
		}
		if !sameSite(said, last) {
			t.Fatal("line by line", list, said, last)
		}
	}
}

func TestP47KnownJournals(t *testing.T) {
	for _, known := range []struct {
		text string
		list []impl.SiteDeed
		many int
	}{
		{"tick 3\nface 1 2 3\ntick", []impl.SiteDeed{tick(3), look(face(1, 2, 3))}, 18}, {"", nil, 0}, {"\n", nil, 0}, {"tick 3", nil, 0}, {"tick 3\n", []impl.SiteDeed{tick(3)}, 7}, {"tick 3\n\n", []impl.SiteDeed{tick(3)}, 7}, {"\ntick 3\n", nil, 0}, {"tick 3\n\ntick 3\n", []impl.SiteDeed{tick(3)}, 7},
		// Deeds behind a line that is none are not read, and those that can be done nowhere are.
		{"tick 3\ntime\ntick 4\n", []impl.SiteDeed{tick(3)}, 7}, {"tick 03\ntick 3\n", nil, 0}, {"tick 3 \ntick 3\n", nil, 0}, {"tick 3\r\n", nil, 0}, {" tick 3\n", nil, 0}, {"tick 999\ntear -5\nbuild 0 0 0 0 0\n", []impl.SiteDeed{tick(999), tear(-5), build(impl.Block{})}, 33}, {"tick 1000\n", nil, 0},
		{"tear 0\ntear 0\ntear 0", []impl.SiteDeed{tear(0), tear(0)}, 14}, {"move 1 2\nmove 1 2 3\nmove 1 2\n", []impl.SiteDeed{move(place(1, 2))}, 9}, {"tick 3\n\x00", []impl.SiteDeed{tick(3)}, 7}, {"tick 3;tick 4\n", nil, 0}, {"tick 3\vtick 4\n", nil, 0},
	} {
		list, many := impl.ReadJournal(known.text)
		if !slices.Equal(list, known.list) || many != known.many {
			t.Errorf("%q %v %d", known.text, list, many)
		}
	}
	for _, s := range []string{strings.Repeat("\n", 5000), strings.Repeat("tick 3 ", 5000), strings.Repeat("9", 5000) + "\n", strings.Repeat(" ", 5000) + "\n", "tick " + strings.Repeat("3", 5000) + "\n"} {
		if list, many := impl.ReadJournal(s); len(list) != 0 || many != 0 {
			t.Error("long text", list, many)
		}
	}
}

func TestP47ChangedJournalsAreReadAsFarAsTheyGo(t *testing.T) {
	eachChangedText("tick 3\nmove -1 20\ntear 0\n", func(s string) {
		list, many := impl.ReadJournal(s)
		if many > len(s) || journalOf(list) != s[:max(many, 0)] {
			t.Fatalf("%q %v %d", s, list, many)
		}
		line, _, ends := strings.Cut(s[many:], "\n")
		if d, ok := impl.ReadDeed(line); ends && ok {
			t.Fatalf("more %q %v %d %v", s, list, many, d)
		}
	})
}

func TestP166JournalsAreRead(t *testing.T) {
	long := slices.Repeat(someDeeds(), 50)
	for _, list := range append(someJournals(), long, someDeeds()) {
		kept := slices.Clone(list)
		text := impl.JournalText(list)
		if text != journalOf(list) || !slices.Equal(list, kept) {
			t.Error("text", list, text)
		}
		back, many := impl.ReadJournal(text)
		if !slices.Equal(back, list) || many != len(text) {
			t.Error("back", text, back, many)
		}
		clear(back)
		if again, _ := impl.ReadJournal(text); !slices.Equal(again, list) {
			t.Error("shares memory", text, again)
		}
	}
}

func TestP166JournalsWithOtherDeedsHaveNoText(t *testing.T) {
	none := append(mixedDeeds(), tick(1000), tear(-1000), move(place(0, 1000)), look(face(0, 0, -1000)), build(block(0, 0, 0, 0, 1000)))
	for _, kind := range otherFrom(0, 4) {
		none = append(none, impl.SiteDeed{Kind: kind})
	}
	for _, d := range none {
		for _, list := range [][]impl.SiteDeed{{d}, {d, tick(1)}, {tick(1), d}, {tick(1), d, tear(0)}, {d, d}} {
			if text := impl.JournalText(list); text != "" {
				t.Errorf("%v %q", list, text)
			}
		}
	}
	if impl.JournalText(nil) != "" || impl.JournalText([]impl.SiteDeed{}) != "" || impl.JournalText([]impl.SiteDeed{tick(3), look(face(1, 2, 3))}) != "tick 3\nface 1 2 3\n" {
		t.Error("known journals")
	}
}
