package tests

import (
	"math"
	"testing"

	"loop.example/sundials/impl"
)

func TestP59TheOlderCalendarHasAllDates(t *testing.T) {
	eachDate(t, func(number int, d impl.Date) {
		if !impl.OldValid(d) {
			t.Error("newer date", d)
		}
	})
	many := 0
	for year := -8; year <= 4008; year++ {
		counted := year >= 1 && year <= 4000
		if impl.OldValid(date(year, 2, 29)) != (counted && year%4 == 0) {
			t.Error("February 29", year)
		}
		for month := -1; month <= 14; month++ {
			for day := -1; day <= 33; day++ {
				if impl.OldValid(date(year, month, day)) {
					many++
				}
			}
		}
	}
	if many != 4000*365+1000 {
		t.Error("dates in all", many)
	}
	for _, d := range append(invalidInBoth(), date(1900, 2, 30), date(2023, 2, 29)) {
		if impl.OldValid(d) {
			t.Error("other date", d)
		}
	}
}

func TestP60TheOlderCalendarFallsBack(t *testing.T) {
	eachOldDate(t, func(number int, d impl.Date) {
		if !impl.OldValid(d) || impl.OldNumber(d) != number {
			t.Error("OldNumber", d, impl.OldNumber(d))
		}
		back, ok := impl.OldOf(number)
		if number <= impl.LastDay && (!ok || back != d) {
			t.Error("OldOf", number, back, ok)
		}
		if number > impl.LastDay && (ok || back != (impl.Date{})) {
			t.Error("OldOf behind the end", number, back, ok)
		}
		if impl.DateValid(d) && impl.DayNumber(d) > number+2 {
			t.Error("newer date later", d)
		}
		if d.Year+400 <= 4000 && impl.OldNumber(date(d.Year+400, d.Month, d.Day)) != number+146100 {
			t.Error("400 years later", d)
		}
	})
}

func TestP60OtherDatesHaveNoNumber(t *testing.T) {
	for _, d := range append(invalidInBoth(), date(1900, 2, 30), date(2024, 2, 30)) {
		if impl.OldNumber(d) != -3 {
			t.Error(d, impl.OldNumber(d))
		}
	}
	for d, want := range map[impl.Date]int{date(1, 1, 1): -2, date(1, 1, 3): 0, date(4, 2, 29): 1152, date(100, 2, 29): 36216, date(4000, 12, 31): impl.LastDay + 28} {
		if impl.OldNumber(d) != want {
			t.Error("OldNumber", d, impl.OldNumber(d))
		}
	}
	if impl.OldNumber(date(1582, 10, 5)) != impl.DayNumber(date(1582, 10, 15)) || impl.OldNumber(date(1900, 2, 29)) != impl.DayNumber(date(1900, 3, 13)) {
		t.Error("known days")
	}
}

func TestP61EveryDayHasAnOlderDate(t *testing.T) {
	before := impl.Date{}
	for number := -2; number <= impl.LastDay; number++ {
		d, ok := impl.OldOf(number)
		if !ok || impl.OldNumber(d) != number {
			t.Fatal("OldOf", number, d, ok)
		}
		if number > -2 && d != date(before.Year, before.Month, before.Day+1) && d.Day != 1 {
			t.Fatal("next day", before, d)
		}
		before = d
	}
	for number, want := range map[int]impl.Date{-2: date(1, 1, 1), -1: date(1, 1, 2), 0: date(1, 1, 3), impl.LastDay: date(4000, 12, 3)} {
		if d, ok := impl.OldOf(number); !ok || d != want {
			t.Error("OldOf", number, d, ok)
		}
	}
	for _, number := range []int{math.MinInt, math.MinInt + 1, -146100, -4, -3, impl.LastDay + 1, impl.LastDay + 28, math.MaxInt - 1, math.MaxInt} {
		if d, ok := impl.OldOf(number); ok || d != (impl.Date{}) {
			t.Error("other number", number, d, ok)
		}
	}
}
