package tests

import (
	"testing"
	"time"

	"loop.example/sundials/impl"
)

func TestP1DatesTellNumbers(t *testing.T) {
	eachDate(t, func(number int, d impl.Date) {
		if got, ok := impl.DateOf(number); !ok || got != d {
			t.Error("DateOf", number, got, ok)
		}
		if got := impl.DayNumber(d); got != number {
			t.Error("DayNumber", d, got)
		}
		if number+146097 <= impl.LastDay {
			if got, ok := impl.DateOf(number + 146097); !ok || got != date(d.Year+400, d.Month, d.Day) {
				t.Error("400 years behind", d, got, ok)
			}
		}
	})
}

func TestP1OtherNumbersHaveNoDate(t *testing.T) {
	if impl.LastYear != 4000 || impl.LastDay != 1460969 {
		t.Error("constants", impl.LastYear, impl.LastDay)
	}
	if d, ok := impl.DateOf(0); !ok || d != date(1, 1, 1) {
		t.Error("first", d, ok)
	}
	if d, ok := impl.DateOf(impl.LastDay); !ok || d != date(4000, 12, 31) {
		t.Error("last", d, ok)
	}
	for _, n := range nearInts(impl.LastDay, -146097, 146097*11) {
		if n >= 0 && n <= impl.LastDay {
			continue
		}
		if d, ok := impl.DateOf(n); ok || d != (impl.Date{}) {
			t.Error("DateOf", n, d, ok)
		}
	}
}

func TestP49LeapYearsComeBack(t *testing.T) {
	many := 0
	for year := -8; year <= 4008; year++ {
		counted := year >= 1 && year <= 4000
		want := counted && timeOf(date(year, 12, 31)).YearDay() == 366
		if impl.LeapYear(year) != want {
			t.Error("LeapYear", year)
		}
		if counted && year+400 <= 4000 && impl.LeapYear(year) != impl.LeapYear(year+400) {
			t.Error("400 years later", year)
		}
		if impl.LeapYear(year) {
			many++
		}
		if year%4 == 0 {
			many = 0
		}
		if many > 1 {
			t.Error("two in four years", year)
		}
	}
}

func TestP49OtherYearsAreNone(t *testing.T) {
	for _, y := range otherYears() {
		if impl.LeapYear(y) {
			t.Error(y)
		}
	}
	for y, want := range map[int]bool{4: true, 100: false, 400: true, 1900: false, 2000: true, 2023: false, 2024: true, 2100: false, 3900: false, 4000: true} {
		if impl.LeapYear(y) != want {
			t.Error(y)
		}
	}
}

func TestP50AYearHasAllItsMonths(t *testing.T) {
	for year := 1; year <= 4000; year++ {
		sum := 0
		for month := 1; month <= 12; month++ {
			sum += impl.MonthLong(year, month)
		}
		long := impl.YearLong(year)
		if sum != long || long != timeOf(date(year, 12, 31)).YearDay() {
			t.Error("YearLong", year, long, sum)
		}
		if year < 4000 && impl.DayNumber(date(year+1, 1, 1))-impl.DayNumber(date(year, 1, 1)) != long {
			t.Error("difference", year)
		}
	}
	for _, y := range otherYears() {
		if impl.YearLong(y) != 0 {
			t.Error("other year", y)
		}
	}
}

func TestP51MonthsHave28To31Days(t *testing.T) {
	for year := 1; year <= 4000; year++ {
		for month := 1; month <= 12; month++ {
			long := impl.MonthLong(year, month)
			if want := time.Date(year, time.Month(month)+1, 0, 0, 0, 0, 0, time.UTC).Day(); long != want || long < 28 || long > 31 {
				t.Error("MonthLong", year, month, long)
			}
			if !impl.DateValid(date(year, month, long)) || impl.DateValid(date(year, month, long+1)) {
				t.Error("last day", year, month)
			}
		}
	}
}

func TestP51OtherMonthsHaveNoDays(t *testing.T) {
	for _, y := range otherYears() {
		for month := 1; month <= 12; month++ {
			if impl.MonthLong(y, month) != 0 {
				t.Error("year", y, month)
			}
		}
	}
	for _, month := range nearInts(13, -12) {
		if month >= 1 && month <= 12 {
			continue
		}
		if impl.MonthLong(2024, month) != 0 || impl.MonthLong(2023, month) != 0 {
			t.Error("month", month)
		}
	}
}

func TestP52MonthsBeginWithTheirFirstDay(t *testing.T) {
	eachDate(t, func(number int, d impl.Date) {
		if !impl.DateValid(d) || !impl.DateValid(date(d.Year, d.Month, 1)) || impl.DateValid(date(d.Year, d.Month, 0)) || !impl.OldValid(d) {
			t.Error(d)
		}
	})
}

func TestP52OtherDatesAreNotValid(t *testing.T) {
	for _, d := range invalidDates() {
		if impl.DateValid(d) {
			t.Error(d)
		}
	}
	many := 0
	for year := -1; year <= 4002; year++ {
		for month := -1; month <= 14; month++ {
			for day := -1; day <= 33; day++ {
				if impl.DateValid(date(year, month, day)) {
					many++
				}
			}
		}
	}
	if many != impl.LastDay+1 {
		t.Error("valid dates", many)
	}
}

func TestP53NumbersTellDates(t *testing.T) {
	eachDate(t, func(number int, d impl.Date) {
		if got, ok := impl.DateOf(impl.DayNumber(d)); !ok || got != d {
			t.Error(d, got, ok)
		}
	})
	for d, want := range map[impl.Date]int{date(1, 1, 1): 0, date(1, 12, 31): 364, date(4, 2, 29): 1154, date(4, 12, 31): 1460, date(5, 1, 1): 1461, date(401, 1, 1): 146097, date(4000, 12, 31): 1460969} {
		if impl.DayNumber(d) != want {
			t.Error("DayNumber", d, impl.DayNumber(d))
		}
	}
	for _, d := range invalidDates() {
		if impl.DayNumber(d) != -1 {
			t.Error("other date", d, impl.DayNumber(d))
		}
	}
}

func TestP54DaysCanBeTakenBack(t *testing.T) {
	steps := []int{0, 1, -1, 7, 28, 29, 365, -366, 1461, 36524, -36525, 146097, -146097, 700000, -700000, impl.LastDay, -impl.LastDay}
	for number := 0; number <= impl.LastDay; number += 997 {
		start, _ := impl.DateOf(number)
		for _, a := range steps {
			mid, ok := impl.DateAdd(start, a)
			want, counted := impl.DateOf(number + a)
			if ok != counted || mid != want {
				t.Fatal("DateAdd", start, a, mid, ok)
			}
			if !ok {
				continue
			}
			if back, ok := impl.DateAdd(mid, -a); !ok || back != start {
				t.Fatal("back", start, a, back, ok)
			}
			for _, b := range steps {
				if a+b < -impl.LastDay || a+b > impl.LastDay {
					continue
				}
				parts, ok1 := impl.DateAdd(mid, b)
				whole, ok2 := impl.DateAdd(start, a+b)
				if parts != whole || ok1 != ok2 {
					t.Fatal("two parts", start, a, b, parts, whole)
				}
			}
		}
	}
}

func TestP54WhatIsNotCounted(t *testing.T) {
	first, last := date(1, 1, 1), date(4000, 12, 31)
	if d, ok := impl.DateAdd(first, impl.LastDay); !ok || d != last {
		t.Error("all days on", d, ok)
	}
	if d, ok := impl.DateAdd(last, -impl.LastDay); !ok || d != first {
		t.Error("all days back", d, ok)
	}
	check := func(d impl.Date, days int) {
		if got, ok := impl.DateAdd(d, days); ok || got != (impl.Date{}) {
			t.Error(d, days, got, ok)
		}
	}
	check(first, -1)
	check(last, 1)
	for _, days := range nearInts(impl.LastDay, -impl.LastDay) {
		if days < -impl.LastDay || days > impl.LastDay {
			check(first, days)
			check(last, days)
			check(date(2024, 2, 29), days)
		}
	}
	for _, d := range invalidDates() {
		check(d, 0)
		check(d, 1)
		check(d, 400)
		check(d, -1)
	}
}

func TestP55DaysOfAYearAreCounted(t *testing.T) {
	eachDate(t, func(number int, d impl.Date) {
		sum := d.Day
		for month := 1; month < d.Month; month++ {
			sum += impl.MonthLong(d.Year, month)
		}
		got := impl.DayOfYear(d)
		if got != sum || got != timeOf(d).YearDay() || got > impl.YearLong(d.Year) {
			t.Error(d, got, sum)
		}
	})
	for _, d := range invalidDates() {
		if impl.DayOfYear(d) != 0 {
			t.Error("other date", d, impl.DayOfYear(d))
		}
	}
}
