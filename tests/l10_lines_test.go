package tests

import (
	"fmt"
	"slices"
	"strings"
	"testing"

	"loop.example/sundials/impl"
)

// questions are the lines that ask for something.
func questions() []string {
	return []string{"time", "light", "gain", "store", "blind", "blocks", "sun"}
}

// answerHere is the answer to a line that is no deed.
func answerHere(s impl.Site, line string) string {
	sun := "down"
	if r, up := rayHere(s); up {
		sun = fmt.Sprintf("%d,%d,%d", r.East, r.North, r.Up)
	}
	answers := map[string]string{
		"time": fmt.Sprintf("%d %02d:%02d", s.Day, s.Minute/60, s.Minute%60), "light": fmt.Sprint(lightHere(s)), "gain": fmt.Sprint(gainHere(s)), "store": fmt.Sprintf("%d/%d", s.Has, s.Holds),
		"blind": map[bool]string{false: "open", true: "shut"}[s.Cover.Shut], "blocks": fmt.Sprint(len(s.Blocks)), "sun": sun,
	}
	if answer, is := answers[line]; is {
		return answer
	}
	return "what"
}

// afterLine is a site after a line, and the answer.
func afterLine(s impl.Site, line string) (impl.Site, string) {
	d, ok := impl.ReadDeed(line)
	if !ok {
		return copyOfSite(s), answerHere(s, line)
	}
	after, done := afterDeed(s, d)
	if done {
		return after, "ok"
	}
	return after, "no"
}

// someLines are questions, texts of deeds that can be done and that cannot, and lines that are neither.
func someLines() []string {
	list := append(questions(), "", " ", "what", "ok", "time ", "tick", "tick 01", "tick 1\n", "Sun", "sun,", "light 3", "tick 0", "tick 97", "tear 9", "build 0 0 0 0 0", "face 0 0 0", "move 51 0")
	for _, d := range someDeeds() {
		list = append(list, lineOfDeed(d))
	}
	return list
}

func TestP48LinesFollowEachOther(t *testing.T) {
	some := someLines()
	eachSite(t, 41, func(s impl.Site) {
		for seed := range 8 {
			var lines []string
			for i := range []int{40, 40, 39, 1, 2, 7, 20, 0}[seed] {
				lines = append(lines, some[mixed(seed+s.Day, i+s.Minute, len(some))])
			}
			kept := slices.Clone(lines)
			last, answers := impl.SiteSay(s, lines)
			want := copyOfSite(s)
			var wantAnswers []string
			for _, line := range lines {
				after, answer := afterLine(want, line)
				want, wantAnswers = after, append(wantAnswers, answer)
			}
			if !sameSite(last, want) || !slices.Equal(answers, wantAnswers) || slices.Contains(answers, "") {
				t.Error("lines", s, lines, last, answers, wantAnswers)
			}
			for _, i := range []int{0, len(lines) / 3, len(lines)} {
				middle, first := impl.SiteSay(s, lines[:i])
				end, second := impl.SiteSay(middle, lines[i:])
				if !sameSite(end, last) || !slices.Equal(slices.Concat(first, second), answers) {
					t.Error("parts", s, lines, i)
				}
			}
			checkOwnBlocks(t, s, last)
			clear(answers)
			if _, again := impl.SiteSay(s, lines); !slices.Equal(again, wantAnswers) || !slices.Equal(lines, kept) {
				t.Error("shares memory", s, kept, lines, again)
			}
		}
	})
}

func TestP48TheExamplesOfTheDocument(t *testing.T) {
	const said = `time=81 11:45;tick 1=ok;time=81 12:00;sun=0,0,20;light=100;store=13/30;blind=shut;build 0 2 0 2 9=ok;light=20;gain=0;tear 0=ok;tear 0=no;tick 48=ok;sun=down`
	var lines, want []string
	for _, pair := range strings.Split(said, ";") {
		line, answer, _ := strings.Cut(pair, "=")
		lines, want = append(lines, line), append(want, answer)
	}
	last, answers := impl.SiteSay(knownSite(), lines)
	if !slices.Equal(answers, want) {
		t.Error(answers)
	}
	if last.Day != 82 || last.Minute != 0 || len(last.Blocks) != 0 {
		t.Error(last)
	}
}

func TestP48TooManyLinesAndOtherSites(t *testing.T) {
	for many := range 60 {
		for _, line := range []string{"time", "tick 1", "", "tear 0"} {
			last, answers := impl.SiteSay(knownSite(), slices.Repeat([]string{line}, many))
			if many <= 40 && (len(answers) != many || noSite(last)) || many > 40 && (len(answers) != 0 || !noSite(last)) {
				t.Error("so many", many, line, last, answers)
			}
		}
	}
	for _, s := range otherSites() {
		for _, lines := range [][]string{nil, {}, {"time"}, {"tick 1", "what"}} {
			if last, answers := impl.SiteSay(s, lines); len(answers) != 0 || !noSite(last) {
				t.Error("other site", s, lines, last, answers)
			}
		}
	}
}

func TestP167QuestionsChangeNothing(t *testing.T) {
	lines := someLines()
	eachSite(t, 11, func(s impl.Site) {
		for _, line := range lines {
			after, answer := impl.SiteLine(s, line)
			if want, wantAnswer := afterLine(s, line); !sameSite(after, want) || answer != wantAnswer {
				t.Errorf("line %v %q %v %q %q", s, line, after, answer, wantAnswer)
			}
			if !impl.SiteValid(after) || answer != "ok" && !sameSite(after, s) {
				t.Error("changed", s, line, after, answer)
			}
			checkOwnBlocks(t, s, after)
		}
	})
	for _, s := range otherSites() {
		for _, line := range []string{"", " ", "time", "light", "gain", "store", "sun", "tick 1", "tear 0", "what"} {
			if after, answer := impl.SiteLine(s, line); answer != "" || !noSite(after) {
				t.Errorf("other site %v %q %v %q", s, line, after, answer)
			}
		}
	}
}

func TestP167KnownAnswers(t *testing.T) {
	noon := siteWhere(0, 81, 720)
	shut := noon
	shut.Cover.Shut = true
	empty := noon
	empty.Holds, empty.Has = 0, 0
	built := noon
	built.Blocks = yards()[9]
	for _, known := range []struct {
		s            impl.Site
		line, answer string
	}{
		{noon, "time", "81 12:00"}, {siteWhere(0, 1, 0), "time", "1 00:00"}, {siteWhere(0, 365, 1425), "time", "365 23:45"}, {siteWhere(0, 10, 555), "time", "10 09:15"},
		{noon, "light", "100"}, {siteWhere(0, 81, 0), "light", "0"}, {noon, "gain", "10"}, {siteWhere(0, 81, 0), "gain", "0"}, {noon, "store", "5/30"}, {empty, "store", "0/0"}, {noon, "blind", "open"}, {shut, "blind", "shut"}, {noon, "blocks", "0"}, {built, "blocks", "5"},
		{noon, "sun", "0,0,20"}, {siteWhere(0, 81, 735), "sun", "-1,0,20"}, {siteWhere(-90, 29, 120), "sun", "10,-16,6"}, {siteWhere(-90, 29, 840), "sun", "-9,16,6"}, {siteWhere(0, 81, 0), "sun", "down"}, {siteWhere(0, 81, 360), "sun", "down"},
		{noon, "", "what"}, {noon, " ", "what"}, {noon, "\n", "what"}, {noon, "time ", "what"}, {noon, " time", "what"}, {noon, "Time", "what"}, {noon, "time\n", "what"}, {noon, "times", "what"}, {noon, "what", "what"}, {noon, "down", "what"}, {noon, "tick", "what"}, {noon, "tick 01", "what"}, {noon, "tick 1000", "what"}, {noon, "tick 1 1", "what"},
		{noon, "tick 1", "ok"}, {noon, "tick 96", "ok"}, {noon, "tick 97", "no"}, {noon, "tick 0", "no"}, {noon, "tick -1", "no"}, {noon, "tear 0", "no"}, {built, "tear 0", "ok"}, {built, "tear 4", "ok"}, {built, "tear 5", "no"}, {built, "tear -1", "no"}, {noon, "build 0 2 0 2 9", "ok"}, {noon, "build 0 0 0 0 0", "no"}, {noon, "build 0 2 0 2 31", "no"}, {built, "build 0 2 0 2 9", "no"},
		{noon, "move 1 1", "no"}, {noon, "move 1 2", "ok"}, {noon, "move 50 -50", "ok"}, {noon, "move 51 0", "no"}, {noon, "face 0 0 10", "no"}, {noon, "face 0 0 9", "ok"}, {noon, "face 0 0 0", "no"}, {noon, "face 0 0 -1", "no"}, {noon, "face 11 0 0", "no"},
	} {
		if _, answer := impl.SiteLine(known.s, known.line); answer != known.answer {
			t.Errorf("%v %q %q", known.s, known.line, answer)
		}
	}
}

func TestP167ChangedQuestionsAreAnsweredByWhat(t *testing.T) {
	s := knownSite()
	for _, question := range questions() {
		eachChangedText(question, func(line string) {
			if slices.Contains(questions(), line) {
				return
			}
			if after, answer := impl.SiteLine(s, line); answer != "what" || !sameSite(after, s) {
				t.Fatalf("%q %q %v", line, answer, after)
			}
		})
	}
	for _, line := range []string{strings.Repeat(" ", 5000), strings.Repeat("time", 2000), strings.Repeat("tick 1\n", 2000), "\x00", "é", "\xff"} {
		if after, answer := impl.SiteLine(s, line); answer != "what" || !sameSite(after, s) {
			t.Fatalf("%q %q %v", line, answer, after)
		}
	}
}
