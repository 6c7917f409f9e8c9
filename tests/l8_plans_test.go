package tests

import (
	"fmt"
	"slices"
	"strings"
	"testing"

	"loop.example/sundials/impl"
)

func TestP38EntriesHoldUntilTheNextOne(t *testing.T) {
	for _, plan := range somePlans() {
		if len(plan) == 0 {
			continue
		}
		kept := slices.Clone(plan)
		for _, e := range plan {
			if got := impl.EntryAt(plan, e.Minute); got != e.Text {
				t.Error("at its minute", plan, e, got)
			}
		}
		texts, _ := eachMinute(plan)
		for minute := range 1440 {
			text, next := impl.EntryAt(plan, minute), impl.EntryNext(plan, minute)
			if text != texts[minute] {
				t.Fatal("holds", plan, minute, text, texts[minute])
			}
			for later := range next {
				if later%97 == 0 || later == next-1 {
					if got := impl.EntryAt(plan, (minute+later)%1440); got != text {
						t.Fatal("before the next one", plan, minute, later, got)
					}
				}
			}
		}
		if !slices.Equal(plan, kept) {
			t.Fatal("changed", kept, plan)
		}
	}
}

func TestP38KnownEntries(t *testing.T) {
	plan := []impl.Entry{entry(420, "open"), entry(1200, "shut")}
	for minute, want := range map[int]string{0: "shut", 100: "shut", 419: "shut", 420: "open", 421: "open", 1199: "open", 1200: "shut", 1201: "shut", 1439: "shut", -1: "", 1440: "", 1860: "", -240: ""} {
		if got := impl.EntryAt(plan, minute); got != want {
			t.Error(minute, got)
		}
	}
	for _, minute := range []int{0, 1, 700, 701, 1439} {
		if impl.EntryAt([]impl.Entry{entry(700, "a")}, minute) != "a" || impl.EntryAt(nil, minute) != "" || impl.EntryAt([]impl.Entry{}, minute) != "" {
			t.Error("one or none", minute)
		}
	}
}

// checkNoEntry tells an entry that holds or comes, where there is none.
func checkNoEntry(t *testing.T, plan []impl.Entry, minute int) {
	t.Helper()
	if text, next := impl.EntryAt(plan, minute), impl.EntryNext(plan, minute); text != "" || next != -1 {
		t.Errorf("%v %d %q %d", plan, minute, text, next)
	}
}

func TestP38OtherPlansAndMinutesHaveNoEntry(t *testing.T) {
	for _, plan := range otherPlans() {
		for _, minute := range []int{-1, 0, 5, 600, 700, 1439, 1440, plan[0].Minute} {
			checkNoEntry(t, plan, minute)
		}
	}
	for _, plan := range somePlans() {
		for _, minute := range append(otherFrom(0, 1439), otherMinutes()...) {
			checkNoEntry(t, plan, minute)
		}
	}
}

func TestP143EntriesCanBeCrossedOut(t *testing.T) {
	if !impl.EntriesValid(nil) || !impl.EntriesValid([]impl.Entry{}) {
		t.Error("without entries")
	}
	for _, plan := range somePlans() {
		if !impl.EntriesValid(plan) {
			t.Error("valid", plan)
		}
		for i, e := range plan {
			if !impl.EntriesValid(plan[1:]) || !impl.EntriesValid(slices.Delete(slices.Clone(plan), i, i+1)) {
				t.Error("crossed out", plan, i)
			}
			for at := range len(plan) + 1 {
				if impl.EntriesValid(slices.Insert(slices.Clone(plan), at, e)) {
					t.Error("twice", plan, e, at)
				}
			}
			for _, other := range []impl.Entry{entry(e.Minute, ""), entry(e.Minute, e.Text+" "), entry(-1, e.Text), entry(1440, e.Text)} {
				changed := slices.Clone(plan)
				changed[i] = other
				if impl.EntriesValid(changed) {
					t.Error("other entry", changed)
				}
			}
		}
	}
}

func TestP143OtherPlansAreNotValid(t *testing.T) {
	for minute := -1450; minute <= 2900; minute++ {
		if impl.EntriesValid([]impl.Entry{entry(minute, "a")}) != (minute >= 0 && minute <= 1439) {
			t.Error("minute", minute)
		}
	}
	for first := -2; first <= 4; first++ {
		for second := -2; second <= 4; second++ {
			if impl.EntriesValid([]impl.Entry{entry(first, "a"), entry(second, "b")}) != (first >= 0 && second > first) {
				t.Error("order", first, second)
			}
		}
	}
	var plan []impl.Entry
	for many := range 20 {
		if impl.EntriesValid(plan) != (many <= 8) {
			t.Error("so many", many)
		}
		plan = append(plan, entry(many*7, "same"))
	}
	for _, other := range otherPlans() {
		if impl.EntriesValid(other) {
			t.Error("other plan", other)
		}
	}
}

func TestP144TheNextEntryComes(t *testing.T) {
	for _, plan := range somePlans() {
		_, nexts := eachMinute(plan)
		for minute := range 1440 {
			next := impl.EntryNext(plan, minute)
			if next != nexts[minute] {
				t.Fatal("next", plan, minute, next, nexts[minute])
			}
			if len(plan) == 0 {
				continue
			}
			there := func(e impl.Entry) bool {
				return e.Minute == (minute+next)%1440
			}
			if next < 1 || next > 1440 || !slices.ContainsFunc(plan, there) {
				t.Fatal("an entry", plan, minute, next)
			}
			if later := impl.EntryNext(plan, (minute+1)%1440); next > 1 && later != next-1 {
				t.Fatal("a minute later", plan, minute, next, later)
			}
		}
	}
}

func TestP144KnownMinutes(t *testing.T) {
	plan := []impl.Entry{entry(420, "open"), entry(1200, "shut")}
	for minute, want := range map[int]int{0: 420, 419: 1, 420: 780, 421: 779, 1199: 1, 1200: 660, 1300: 560, 1439: 421, -1: -1, 1440: -1} {
		if got := impl.EntryNext(plan, minute); got != want {
			t.Error(minute, got)
		}
	}
	for _, minute := range []int{0, 420, 719, 1439} {
		one := []impl.Entry{entry(minute, "a")}
		if impl.EntryNext(one, minute) != 1440 || impl.EntryNext(one, (minute+1)%1440) != 1439 || impl.EntryNext(one, (minute+1439)%1440) != 1 {
			t.Error("one entry", minute, impl.EntryNext(one, minute))
		}
		checkNoEntry(t, nil, minute)
		checkNoEntry(t, []impl.Entry{}, minute)
		for _, plan := range otherPlans() {
			checkNoEntry(t, plan, minute)
		}
	}
}

// planText is the text of a plan, one entry behind the other.
func planText(plan []impl.Entry) string {
	text := ""
	for i, e := range plan {
		if i > 0 {
			text += ";"
		}
		text += fmt.Sprintf("%02d:%02d %s", e.Minute/60, e.Minute%60, e.Text)
	}
	return text
}

func TestP145TextsOfPlansAreRead(t *testing.T) {
	for _, plan := range somePlans() {
		kept := slices.Clone(plan)
		text := impl.EntriesText(plan)
		if text != planText(plan) || !slices.Equal(plan, kept) {
			t.Error("text", plan, text)
		}
		back, ok := impl.ReadEntries(text)
		if ok != (len(plan) > 0) || !slices.Equal(back, plan) {
			t.Error("back", text, back, ok)
		}
		clear(back)
		if again, _ := impl.ReadEntries(text); !slices.Equal(again, plan) {
			t.Error("shares memory", text, again)
		}
	}
	for minute := range 1440 {
		plan := []impl.Entry{entry(minute, "10:30")}
		if back, ok := impl.ReadEntries(impl.EntriesText(plan)); !ok || !slices.Equal(back, plan) || impl.EntriesText(plan) != planText(plan) {
			t.Error("minute", minute, back, ok)
		}
	}
}

func TestP145KnownTextsOfPlans(t *testing.T) {
	for text, plan := range map[string][]impl.Entry{
		"":                             {},
		"07:00 open;20:00 shut":        {entry(420, "open"), entry(1200, "shut")},
		"00:00 a":                      {entry(0, "a")},
		"23:59 zzzzz":                  {entry(1439, "zzzzz")},
		"00:09 ::;00:59 09:59;01:00 0": {entry(9, "::"), entry(59, "09:59"), entry(60, "0")},
		"10:10 same;11:11 same":        {entry(610, "same"), entry(671, "same")},
	} {
		if got := impl.EntriesText(plan); got != text {
			t.Error("text", plan, got)
		}
		if got, ok := impl.ReadEntries(text); ok != (text != "") || !slices.Equal(got, plan) {
			t.Error("read", text, got, ok)
		}
	}
	for _, plan := range otherPlans() {
		if got := impl.EntriesText(plan); got != "" {
			t.Errorf("other plan %v %q", plan, got)
		}
	}
}

// checkReadEntries tells a text that is read although it is not the text of its plan, or refused with a plan.
func checkReadEntries(t *testing.T, s string) {
	t.Helper()
	plan, ok := impl.ReadEntries(s)
	if ok && (s == "" || planText(plan) != s || !impl.EntriesValid(plan)) || !ok && len(plan) != 0 {
		t.Errorf("%q %v %v", s, plan, ok)
	}
}

func TestP146ReadTextsOfPlansAreCanonical(t *testing.T) {
	for _, text := range []string{"07:00 open;20:00 shut", "00:00 a", "19:59 :;23:09 10:30"} {
		eachChangedText(text, func(s string) {
			checkReadEntries(t, s)
		})
	}
	for at := range 5 {
		for a := range 256 {
			for b := range 256 {
				checkReadEntries(t, "17:31 open"[:at]+string([]byte{byte(a), byte(b)})+"17:31 open"[at+2:])
			}
		}
	}
	for _, plan := range somePlans() {
		text := impl.EntriesText(plan)
		for _, s := range []string{text + ";", ";" + text, text + ";" + text, text + " ", " " + text, text + "\n", text + ";00:00 a", text + ";;23:59 a"} {
			if got, ok := impl.ReadEntries(s); (ok || len(got) != 0) && planText(got) != s {
				t.Errorf("%q %v", s, got)
			}
		}
		if got, ok := impl.ReadEntries(text + ";"); ok || len(got) != 0 {
			t.Errorf("semicolon %q %v", text, got)
		}
	}
}

func TestP146OtherTextsOfPlansAreRefused(t *testing.T) {
	refused := func(s string) {
		t.Helper()
		if got, ok := impl.ReadEntries(s); ok || len(got) != 0 {
			t.Errorf("%q %v %v", s, got, ok)
		}
	}
	for _, s := range []string{
		"", ";", ";;", ":", " ", ": ", "07:00", "07:00 ", " open", "open", ":00 open", "07: open", "07 open", "0700 open", "07:00open", "07:00  open", "07:00 open ", " 07:00 open", "07:00\topen", "07:00 open;", ";07:00 open", "07:00 open;;20:00 shut", "07:00 open; 20:00 shut", "07:00 open,20:00 shut", "07:00 open;20:00", "07:00 open;shut", "07:00 open 20:00 shut",
		"07:60 open", "07:99 open", "24:00 open", "25:00 open", "99:99 open", "06:60 open", "00:60 a", "23:60 a", "7:00 open", "07:0 open", "007:00 open", "07:000 open", "7:000 open", "-7:00 open", "07:-1 open", "+7:00 open", "07:+1 open", "-0:00 a", "00:-0 a", "00:00:00 a", "07:00: open", "07.00 open", "07;00 open", "0x7:00 a", "1_0:00 a", "1e:00 a", "０7:00 a", " 7:00 a", "07: 1 a", "aa:bb open", "08:-60 open", "00:420 open", "09:+00 a",
		"07:00 opened", "07:00 Open", "07:00 o pen", "07:00 o-pen", "07:00 é", "07:00 open\x00", "07:00 open\n", "\x0007:00 open",
		"20:00 shut;07:00 open", "07:00 open;07:00 open", "07:00 open;07:00 shut", "07:00 open;06:59 shut",
		"307445734561825860:436 open", "153722867280912930:17 a", "9223372036854775807:00 a", "99999999999999999999:00 a", "-99999999999999999999:00 a", "00:18446744073709551616 a", "00:99999999999999999999 a",
		strings.Repeat(";", 5000), strings.Repeat("07:00 open;", 5000) + "07:00 open", strings.Repeat("9", 5000), "07:00 " + strings.Repeat("a", 5000), strings.Repeat("9", 5000) + ":00 a",
	} {
		refused(s)
	}
	for _, plan := range otherPlans() {
		refused(planText(plan))
	}
	var parts []string
	for hour := range 12 {
		parts = append(parts, fmt.Sprintf("%02d:30 a", hour))
		if got, ok := impl.ReadEntries(strings.Join(parts, ";")); ok != (len(parts) <= 8) || ok && len(got) != len(parts) {
			t.Error("so many", len(parts), got, ok)
		}
	}
}
