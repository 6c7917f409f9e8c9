package tests

import (
	"fmt"
	"strings"
	"testing"

	"loop.example/sundials/impl"
)

func TestP62TextsOfDatesAreRead(t *testing.T) {
	before := ""
	eachDate(t, func(number int, d impl.Date) {
		text := impl.DateText(d)
		if len(text) != 10 || text <= before {
			t.Error("order", d, text)
		}
		if back, ok := impl.ReadDate(text); !ok || back != d {
			t.Error("ReadDate", text, back, ok)
		}
		if number%97 == 0 && text != fmt.Sprintf("%04d-%02d-%02d", d.Year, d.Month, d.Day) {
			t.Error("DateText", d, text)
		}
		before = text
	})
}

func TestP62OtherDatesHaveNoText(t *testing.T) {
	for d, want := range map[impl.Date]string{date(1, 1, 1): "0001-01-01", date(987, 6, 5): "0987-06-05", date(2024, 2, 29): "2024-02-29", date(4000, 12, 31): "4000-12-31"} {
		if impl.DateText(d) != want {
			t.Error("DateText", d, impl.DateText(d))
		}
	}
	for _, d := range invalidDates() {
		if impl.DateText(d) != "" {
			t.Error("other date", d, impl.DateText(d))
		}
	}
}

// checkRead tells a text that is read although it is not the text of its date, or refused with a date.
func checkRead(t *testing.T, s string) {
	t.Helper()
	d, ok := impl.ReadDate(s)
	if ok && (impl.DateText(d) != s || !impl.DateValid(d)) || !ok && d != (impl.Date{}) {
		t.Errorf("%q %v %v", s, d, ok)
	}
}

func TestP63ReadTextsAreCanonical(t *testing.T) {
	for _, text := range []string{"2026-11-17", "0001-01-01", "4000-12-31", "2024-02-29", "1900-02-28", "0987-06-05"} {
		eachChangedText(text, func(s string) {
			checkRead(t, s)
		})
	}
	for at := range 9 {
		for a := range 256 {
			for b := range 256 {
				checkRead(t, "2026-11-17"[:at]+string([]byte{byte(a), byte(b)})+"2026-11-17"[at+2:])
			}
		}
	}
}

func TestP63OtherTextsAreRefused(t *testing.T) {
	for _, s := range []string{
		"", "-", "2026", "2026-11", "2026-11-", "2026-11-1", "2026-11-017", "2026-11-170", "02026-11-17", "026-11-17", "26-11-17",
		"2026/11/17", "2026-11/17", "2026 11 17", "20261117", "2026--1-17", "2026-11--7", "-026-11-17", "+026-11-17", "2026-+1-17",
		" 2026-11-17", "2026-11-17 ", "2026-11-17\n", "2026-11-1\n", "2026-11-17\x00", "\x00026-11-17", "2026-1-17", "2026-1-017",
		"0000-01-01", "4001-01-01", "9999-12-31", "2026-00-17", "2026-13-17", "2026-11-00", "2026-11-31", "2023-02-29", "1900-02-29",
		"2026-1a-17", "2026-11-1:", "202/-11-17", "\xff\xff\xff\xff-11-17", "２０２６-11-17", "2026–11–17", strings.Repeat("2026-11-17", 2), strings.Repeat("9", 100),
	} {
		if d, ok := impl.ReadDate(s); ok || d != (impl.Date{}) {
			t.Errorf("%q %v %v", s, d, ok)
		}
	}
}
