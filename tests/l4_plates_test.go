package tests

import (
	"slices"
	"strconv"
	"strings"
	"testing"

	"loop.example/sundials/impl"
)

// passedText is the text of the mark from which one turns least, in the direction from the east to the north, to the shadow.
func passedText(plate []impl.Mark, shadow impl.Way) string {
	text, least := "", 7.0
	for _, m := range plate {
		if angle := ahead(shadow, m.At); angle < least {
			text, least = m.Text, angle
		}
	}
	return text
}

func TestP18ThePlateTellsTheMarkThatWasPassed(t *testing.T) {
	shadows := append(goingWays(), roundOnce()...)
	eachPlate(t, func(plate []impl.Mark) {
		kept := slices.Clone(plate)
		for _, m := range plate {
			for _, shadow := range []impl.Way{m.At, shortest(m.At)} {
				if got := impl.PlateRead(plate, shadow); got != m.Text {
					t.Fatal("on a mark", plate, shadow, got)
				}
			}
		}
		for _, shadow := range shadows {
			if got := impl.PlateRead(plate, shadow); got != passedText(plate, shadow) {
				t.Fatal("shadow", plate, shadow, got)
			}
		}
		if !slices.Equal(plate, kept) {
			t.Fatal("changed", kept, plate)
		}
	})
}

func TestP18KnownShadows(t *testing.T) {
	plate := []impl.Mark{mark("iii", 1, 1), mark("xii", 0, 1), mark("ix", -1, 1)}
	for shadow, want := range map[impl.Way]string{
		way(1, 0): "ix", way(1000, 999): "ix", way(1, 1): "iii", way(1000, 1000): "iii", way(999, 1000): "iii", way(1, 1000): "iii", way(0, 5): "xii",
		way(-1, 1000): "xii", way(-999, 1000): "xii", way(-2, 2): "ix", way(-1, 0): "ix", way(0, -1): "ix", way(1000, -1): "ix",
	} {
		if got := impl.PlateRead(plate, shadow); got != want {
			t.Error(shadow, got)
		}
	}
	for _, shadow := range goingWays() {
		if got := impl.PlateRead(plate[1:2], shadow); got != "xii" {
			t.Error("one mark", shadow, got)
		}
		if got := impl.PlateRead(nil, shadow); got != "" {
			t.Error("no mark", shadow, got)
		}
	}
}

func TestP18OtherPlatesAndShadowsTellNothing(t *testing.T) {
	for _, shadow := range noWays() {
		for _, plate := range [][]impl.Mark{nil, {mark("a", 1, 0)}, {mark("a", 1, 0), mark("b", -1, -1)}} {
			if got := impl.PlateRead(plate, shadow); got != "" {
				t.Error("other shadow", plate, shadow, got)
			}
		}
	}
	for _, plate := range otherPlates() {
		for _, shadow := range []impl.Way{way(1, 0), way(0, 1), way(-1, 0), way(1, -1), {}} {
			if got := impl.PlateRead(plate, shadow); got != "" {
				t.Error("other plate", plate, shadow, got)
			}
		}
	}
}

func TestP19APlateTurnedRoundTellsTheSameOfAShadowTurnedRound(t *testing.T) {
	shadows := append(goingWays(), roundOnce()...)
	eachPlate(t, func(plate []impl.Mark) {
		kept := slices.Clone(plate)
		turned := impl.PlateTurn(plate)
		if !impl.PlateValid(turned) || len(turned) != len(plate) {
			t.Fatal("turned", plate, turned)
		}
		for _, m := range plate {
			if !slices.Contains(turned, impl.Mark{At: opposite(m.At), Text: m.Text}) {
				t.Fatal("mark", m, turned)
			}
			if got := impl.PlateRead(turned, impl.DialTurn(m.At)); got != m.Text {
				t.Fatal("on a mark", plate, m, got)
			}
		}
		for _, shadow := range shadows {
			if impl.PlateRead(turned, impl.DialTurn(shadow)) != impl.PlateRead(plate, shadow) {
				t.Fatal("shadow", plate, shadow)
			}
		}
		if back := impl.PlateTurn(turned); !slices.Equal(back, plate) || !slices.Equal(plate, kept) {
			t.Fatal("turned twice", plate, back, kept)
		}
		clear(turned)
		if !slices.Equal(plate, kept) {
			t.Fatal("memory shared", plate)
		}
	})
}

func TestP19KnownPlateTurned(t *testing.T) {
	plate := []impl.Mark{mark("e", 2, 0), mark("n", 0, 3), mark("w", -4, 0), mark("s", 0, -5)}
	if got := impl.PlateTurn(plate); !slices.Equal(got, []impl.Mark{mark("w", 4, 0), mark("s", 0, 5), mark("e", -2, 0), mark("n", 0, -3)}) {
		t.Error(got)
	}
	for _, other := range otherPlates() {
		if got := impl.PlateTurn(other); len(got) != 0 {
			t.Error("other plate", other, got)
		}
	}
}

func TestP90TextsOfMarksAreShort(t *testing.T) {
	const letters = "abcdefghijklmnopqrstuvwxyz0123456789:"
	for b := range 256 {
		one := string([]byte{byte(b)})
		fine := strings.Contains(letters, one)
		for _, s := range []string{one, one + "a", "a" + one, "ab" + one + "9:", "abcd" + one} {
			if impl.TextOk(s) != fine {
				t.Errorf("%q", s)
			}
		}
	}
	for _, s := range []string{"a", "xii", "10:30", "zzzzz", "00000", ":::::", "a1:z9"} {
		for long := 1; long <= len(s); long++ {
			if !impl.TextOk(s[:long]) || impl.TextOk(s[:long-1]+" ") || impl.TextOk(" "+s[long:]) {
				t.Errorf("beginning %q", s[:long])
			}
		}
	}
	for long := range 20 {
		if impl.TextOk(strings.Repeat("a", long)) != (long >= 1 && long <= 5) {
			t.Error("so long", long)
		}
	}
	for _, s := range otherTexts() {
		if impl.TextOk(s) {
			t.Errorf("other text %q", s)
		}
	}
}

func TestP91MarksCanBeScratchedOut(t *testing.T) {
	if !impl.PlateValid(nil) || !impl.PlateValid([]impl.Mark{}) {
		t.Error("without marks")
	}
	eachPlate(t, func(plate []impl.Mark) {
		if !impl.PlateValid(plate) {
			t.Fatal("plate", plate)
		}
		if len(plate) == 0 {
			return
		}
		if !impl.PlateValid(plate[1:]) {
			t.Fatal("without the first mark", plate)
		}
		first := plate[0]
		for at := range len(plate) + 1 {
			if impl.PlateValid(slices.Insert(slices.Clone(plate), at, first)) {
				t.Fatal("the first mark twice", plate, at)
			}
		}
		if len(plate) > 1 && impl.PlateValid(append(slices.Clone(plate[1:]), first)) {
			t.Fatal("out of order", plate)
		}
	})
}

func TestP91OtherPlatesAreNotValid(t *testing.T) {
	for _, plate := range otherPlates() {
		if impl.PlateValid(plate) {
			t.Error(plate)
		}
	}
	whole := plateAt(roundOnce()...)
	for many := range len(whole) + 1 {
		if impl.PlateValid(whole[:many]) != (many <= 24) {
			t.Error("so many", many)
		}
	}
	for i := range 24 {
		for j := range i {
			changed := slices.Clone(whole[:24])
			changed[i].Text = changed[j].Text
			if impl.PlateValid(changed) {
				t.Error("same text", i, j)
			}
			changed = slices.Clone(whole[:24])
			changed[i].At, changed[j].At = changed[j].At, changed[i].At
			if impl.PlateValid(changed) {
				t.Error("exchanged", i, j)
			}
			changed[i].At = changed[j].At
			if impl.PlateValid(changed) {
				t.Error("same direction", i, j)
			}
		}
	}
}

// newMarks are marks that may be put on plates of eachPlate, but not on all: in every direction, and with a text of some of them.
func newMarks() []impl.Mark {
	list := []impl.Mark{mark(markText(0), -7, 5), mark(markText(1), 7, -5), mark(markText(2), 500, 1)}
	for _, w := range append(roundOnce(), smallWays(1)...) {
		list = append(list, impl.Mark{At: w, Text: "new"})
	}
	return append(list, otherMarks()...)
}

// mayBePut tells whether a mark may be put on a valid plate.
func mayBePut(plate []impl.Mark, m impl.Mark) bool {
	for _, other := range plate {
		if other.Text == m.Text || impl.SameWay(other.At, m.At) {
			return false
		}
	}
	return len(plate) < 24 && !slices.Contains(otherMarks(), m)
}

func TestP92WhatWasPutCanBeDropped(t *testing.T) {
	marks := newMarks()
	eachPlate(t, func(plate []impl.Mark) {
		// A capacity that is left over must not be written to.
		plate = append(slices.Clone(plate), mark("cap", 1, 1))[:len(plate)]
		kept := slices.Clone(plate)
		for _, m := range marks {
			more, ok := impl.PlatePut(plate, m)
			if ok != mayBePut(plate, m) || !ok && !slices.Equal(more, plate) {
				t.Fatal("put", plate, m, more, ok)
			}
			if ok {
				checkPut(t, plate, m, more)
			}
			clear(more)
			if !slices.Equal(plate, kept) || plate[:len(plate)+1][len(plate)] != mark("cap", 1, 1) {
				t.Fatal("memory shared", plate, m)
			}
		}
	})
}

// checkPut tells a plate that is not the one before with the mark at its place in the order.
func checkPut(t *testing.T, plate []impl.Mark, m impl.Mark, more []impl.Mark) {
	t.Helper()
	want := append(slices.Clone(plate), m)
	slices.SortFunc(want, func(a, b impl.Mark) int {
		if around(a.At) < around(b.At) {
			return -1
		}
		return 1
	})
	if !impl.PlateValid(more) || !slices.Equal(more, want) {
		t.Fatal("order", plate, m, more)
	}
	if back, ok := impl.PlateDrop(more, m.Text); !ok || !slices.Equal(back, plate) {
		t.Fatal("back", plate, m, back, ok)
	}
}

func TestP92KnownMarks(t *testing.T) {
	plate := []impl.Mark{mark("b", 1, 1), mark("c", -1, 0)}
	for m, want := range map[impl.Mark][]impl.Mark{
		mark("a", 1, 0):   {mark("a", 1, 0), mark("b", 1, 1), mark("c", -1, 0)},
		mark("a", 0, 1):   {mark("b", 1, 1), mark("a", 0, 1), mark("c", -1, 0)},
		mark("a", 0, -1):  {mark("b", 1, 1), mark("c", -1, 0), mark("a", 0, -1)},
		mark("a", 1, -99): {mark("b", 1, 1), mark("c", -1, 0), mark("a", 1, -99)},
	} {
		if got, ok := impl.PlatePut(plate, m); !ok || !slices.Equal(got, want) {
			t.Error(m, got, ok)
		}
	}
	for _, m := range []impl.Mark{mark("a", 9, 9), mark("c", 0, 1), mark("b", 1, 1), mark("", 0, 1), mark("a", 0, 0), mark("a", 0, 1001)} {
		if got, ok := impl.PlatePut(plate, m); ok || !slices.Equal(got, plate) {
			t.Error("refused", m, got, ok)
		}
	}
	for _, other := range otherPlates() {
		for _, m := range []impl.Mark{mark("new", 77, 1), mark("new", 0, 0), mark("a", 1, 0)} {
			if got, ok := impl.PlatePut(other, m); ok || len(got) != 0 {
				t.Error("other plate", other, m, got, ok)
			}
		}
	}
}

func TestP93WhatWasDroppedCanBePutBack(t *testing.T) {
	eachPlate(t, func(plate []impl.Mark) {
		kept := slices.Clone(plate)
		for i, m := range plate {
			less, ok := impl.PlateDrop(plate, m.Text)
			if !ok || !slices.Equal(less, slices.Concat(plate[:i], plate[i+1:])) || !impl.PlateValid(less) {
				t.Fatal("drop", plate, m, less, ok)
			}
			if back, ok := impl.PlatePut(less, m); !ok || !slices.Equal(back, plate) {
				t.Fatal("back", plate, m, back, ok)
			}
			clear(less)
			if !slices.Equal(plate, kept) {
				t.Fatal("memory shared", kept, plate)
			}
		}
		for _, s := range append(otherTexts(), "new", "none", "cap") {
			same, ok := impl.PlateDrop(plate, s)
			if ok || !slices.Equal(same, plate) {
				t.Fatal("no such mark", plate, s, same, ok)
			}
			clear(same)
			if !slices.Equal(plate, kept) {
				t.Fatal("memory shared", kept, plate)
			}
		}
	})
}

func TestP93FromOtherPlatesNothingIsDropped(t *testing.T) {
	for _, plate := range otherPlates() {
		for _, s := range []string{"a", "b", "new", "", plate[0].Text, plate[len(plate)-1].Text} {
			if got, ok := impl.PlateDrop(plate, s); ok || len(got) != 0 {
				t.Errorf("%v %q %v %v", plate, s, got, ok)
			}
		}
	}
}

// textByParts is the text of a plate put together from its end.
func textByParts(plate []impl.Mark) string {
	text := ""
	for i, m := range slices.Backward(plate) {
		if i < len(plate)-1 {
			text = ";" + text
		}
		text = m.Text + "=" + strconv.Itoa(m.At.East) + "," + strconv.Itoa(m.At.North) + text
	}
	return text
}

func TestP94TextsOfPlatesAreRead(t *testing.T) {
	eachPlate(t, func(plate []impl.Mark) {
		text := impl.PlateText(plate)
		if text != textByParts(plate) {
			t.Fatal("text", plate, text)
		}
		back, ok := impl.ReadPlate(text)
		if ok != (len(plate) > 0) || !slices.Equal(back, plate) {
			t.Fatal("back", plate, back, ok)
		}
	})
	for text, plate := range map[string][]impl.Mark{
		"":                                 {},
		"iii=1,1;xii=0,1":                  {mark("iii", 1, 1), mark("xii", 0, 1)},
		"a=-1,-1000":                       {mark("a", -1, -1000)},
		":::::=1000,0;0=-1000,1000;z=0,-7": {mark(":::::", 1000, 0), mark("0", -1000, 1000), mark("z", 0, -7)},
	} {
		if got := impl.PlateText(plate); got != text {
			t.Error("known text", plate, got)
		}
	}
	for _, plate := range otherPlates() {
		if got := impl.PlateText(plate); got != "" {
			t.Error("other plate", plate, got)
		}
	}
}

func TestP94EveryDirectionIsRead(t *testing.T) {
	for n := -1000; n <= 1000; n++ {
		for _, m := range []impl.Mark{mark("a", n, 1), mark("a", 1000, n), mark("a", -1, n), mark("a", n, -1000)} {
			back, ok := impl.ReadPlate(impl.PlateText([]impl.Mark{m}))
			if !ok || !slices.Equal(back, []impl.Mark{m}) {
				t.Fatal(m, back, ok)
			}
		}
	}
}

// checkReadPlate tells a text that is read although it is not the text of its plate, or refused with a plate.
func checkReadPlate(t *testing.T, s string) {
	t.Helper()
	plate, ok := impl.ReadPlate(s)
	if ok && (s == "" || textByParts(plate) != s || !impl.PlateValid(plate)) || !ok && len(plate) != 0 {
		t.Errorf("%q %v %v", s, plate, ok)
	}
}

func TestP95ReadTextsOfPlatesAreCanonical(t *testing.T) {
	for _, text := range []string{"iii=1,1;xii=0,1", "a=-1,-1000", ":=10,0;b=-10,100;9=0,-70"} {
		eachChangedText(text, func(s string) {
			checkReadPlate(t, s)
		})
	}
	eachPlate(t, func(plate []impl.Mark) {
		text := impl.PlateText(plate)
		for _, s := range []string{text + ";", ";" + text, text + ";" + text, text + " ", text + "0;", text + "\n"} {
			if got, ok := impl.ReadPlate(s); ok || len(got) != 0 {
				t.Fatalf("%q %v", s, got)
			}
		}
	})
}

func TestP95OtherTextsOfPlatesAreRefused(t *testing.T) {
	for _, s := range []string{
		"", ";", ";;", "=", ",", "=,", "a", "a=", "a=1", "a=1,", "a=,1", "=1,1", "a,1,1", "a=1=1", "a=1,1,1", "a=1,1=1", "a==1,1", "a=1,,1", "a1,1",
		"a=1;1", "a=1.0,1", "a=1,1;", ";a=1,1", "a=1,1;;b=0,1", "a=1,1,b=0,1", "a=1,1;b", "a=1,1;b=", "a=1,1 ;b=0,1", "a=1,1; b=0,1", "a= 1,1", "a =1,1",
		"a=+1,1", "a=1,+1", "a=01,1", "a=1,00", "a=-0,1", "a=1,-0", "a=-,1", "a=--1,1", "a=0x1,1", "a=1_0,1", "a=1e1,1", "a=１,1", "a=1,1\x00",
		"a=0,0", "a=1001,0", "a=0,-1001", "a=99999999999999999999,1", "a=-99999999999999999999,1", "a=1,18446744073709551617",
		"abcdef=1,1", "A=1,1", "a b=1,1", "a-b=1,1", "é=1,1", "xii=0,1;iii=1,1", "a=1,1;b=2,2", "a=1,1;a=0,1", "a=1,1;b=1,0", "a=1,0;b=0,-1;c=0,1", "a=1,0;b=0,1;c=1,0",
		"n=x,1", "n=1,y", strings.Repeat(";", 5000), strings.Repeat("a=1,0;", 5000) + "a=1,0", strings.Repeat("9", 5000), "a=" + strings.Repeat("9", 5000) + ",1",
	} {
		if got, ok := impl.ReadPlate(s); ok || len(got) != 0 {
			t.Errorf("%q %v %v", s, got, ok)
		}
	}
	whole := plateAt(roundOnce()...)
	if got, ok := impl.ReadPlate(textByParts(whole[:25])); ok || len(got) != 0 {
		t.Error("too many marks", got, ok)
	}
	if got, ok := impl.ReadPlate(textByParts(whole[:24])); !ok || !slices.Equal(got, whole[:24]) {
		t.Error("as many as may be", got, ok)
	}
}
