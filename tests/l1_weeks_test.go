package tests

import (
	"math"
	"testing"

	"loop.example/sundials/impl"
)

func TestP2AWeekIsInOneYear(t *testing.T) {
	eachDate(t, func(number int, d impl.Date) {
		year, week := impl.WeekOf(d)
		if wantYear, wantWeek := timeOf(d).ISOWeek(); year != wantYear || week != wantWeek {
			t.Error("WeekOf", d, year, week)
		}
		if thursday, ok := impl.DateAdd(d, 4-impl.WeekDay(d)); ok && thursday.Year != year {
			t.Error("Thursday", d, year, week)
		}
		if year >= 1 && year <= 4000 {
			if back, ok := impl.WeekDate(year, week, impl.WeekDay(d)); !ok || back != d {
				t.Error("WeekDate", d, back, ok)
			}
		}
		later, ok := impl.DateAdd(d, 7)
		if !ok {
			return
		}
		nextYear, nextWeek := impl.WeekOf(later)
		if !(nextYear == year && nextWeek == week+1) && !(nextYear == year+1 && nextWeek == 1 && week == impl.WeeksOf(year)) {
			t.Error("next week", d, nextYear, nextWeek)
		}
	})
}

func TestP2FirstAndLastWeeks(t *testing.T) {
	for d, want := range map[impl.Date][2]int{
		date(1, 1, 1): {1, 1}, date(4000, 12, 31): {4000, 52}, date(4000, 1, 1): {3999, 52}, date(2021, 1, 3): {2020, 53},
		date(2021, 1, 4): {2021, 1}, date(2018, 12, 31): {2019, 1}, date(2018, 12, 30): {2018, 52}, date(2020, 12, 31): {2020, 53},
		date(2016, 1, 1): {2015, 53}, date(2012, 1, 1): {2011, 52}, date(2026, 11, 17): {2026, 47},
	} {
		if year, week := impl.WeekOf(d); year != want[0] || week != want[1] {
			t.Error(d, year, week)
		}
	}
	for year := 1; year <= 4000; year++ {
		if y, w := impl.WeekOf(date(year, 1, 4)); y != year || w != 1 {
			t.Error("January 4", year, y, w)
		}
	}
	for _, d := range invalidDates() {
		if year, week := impl.WeekOf(d); year != 0 || week != 0 {
			t.Error("other date", d, year, week)
		}
	}
}

func TestP3EasterIsASundayInSpring(t *testing.T) {
	for year := 1; year <= 4000; year++ {
		d, ok := impl.Easter(year)
		if !ok || d != easterByMoons(year) {
			t.Error("Easter", year, d, ok)
		}
		if d.Year != year || impl.WeekDay(d) != 7 {
			t.Error("no Sunday of the year", year, d)
		}
		number := impl.DayNumber(d)
		if number < impl.DayNumber(date(year, 3, 22)) || number > impl.DayNumber(date(year, 4, 25)) {
			t.Error("not in spring", year, d)
		}
		if year == 4000 {
			break
		}
		next, _ := impl.Easter(year + 1)
		days := impl.DayNumber(next) - number
		if days%7 != 0 || days < 50*7 || days > 55*7 {
			t.Error("to the next one", year, days)
		}
	}
}

// easterByMoons tells Easter in another way than the document does: the full moon of the epact, and the Sunday behind it.
func easterByMoons(year int) impl.Date {
	golden := year%19 + 1
	century := year/100 + 1
	noLeap := 3*century/4 - 12
	moon := (8*century+5)/25 - 5
	sunday := 5*year/4 - noLeap - 10
	epact := ((11*golden+20+moon-noLeap)%30 + 30) % 30
	if epact == 25 && golden > 11 || epact == 24 {
		epact++
	}
	day := 44 - epact
	if day < 21 {
		day += 30
	}
	day += 7 - ((sunday+day)%7+7)%7
	if day > 31 {
		return date(year, 4, day-31)
	}
	return date(year, 3, day)
}

func TestP3SomeEasters(t *testing.T) {
	for _, want := range []impl.Date{
		date(1818, 3, 22), date(1943, 4, 25), date(1954, 4, 18), date(1961, 4, 2), date(1981, 4, 19), date(2000, 4, 23), date(2008, 3, 23),
		date(2011, 4, 24), date(2024, 3, 31), date(2025, 4, 20), date(2026, 4, 5), date(2027, 3, 28), date(2038, 4, 25), date(2049, 4, 18),
	} {
		if d, ok := impl.Easter(want.Year); !ok || d != want {
			t.Error(want, d, ok)
		}
	}
	for _, y := range otherYears() {
		if d, ok := impl.Easter(y); ok || d != (impl.Date{}) {
			t.Error("other year", y, d, ok)
		}
	}
}

func TestP56WeeksHaveSevenDays(t *testing.T) {
	before := 7
	eachDate(t, func(number int, d impl.Date) {
		day := impl.WeekDay(d)
		if want := (int(timeOf(d).Weekday())+6)%7 + 1; day != want || day != before%7+1 {
			t.Error("WeekDay", d, day)
		}
		before = day
		if later, ok := impl.DateAdd(d, 7); ok && impl.WeekDay(later) != day {
			t.Error("a week later", d)
		}
	})
	if impl.WeekDay(date(1, 1, 1)) != 1 || impl.WeekDay(date(4000, 12, 31)) != 7 || impl.WeekDay(date(2026, 11, 17)) != 2 {
		t.Error("known days")
	}
	for _, d := range invalidDates() {
		if impl.WeekDay(d) != 0 {
			t.Error("other date", d, impl.WeekDay(d))
		}
	}
}

func TestP57YearsHaveWholeWeeks(t *testing.T) {
	for year := 1; year <= 4000; year++ {
		weeks := impl.WeeksOf(year)
		long := impl.WeekDay(date(year, 1, 1)) == 4 || impl.WeekDay(date(year, 12, 31)) == 4
		if long && weeks != 53 || !long && weeks != 52 {
			t.Error(year, weeks)
		}
	}
	for year, want := range map[int]int{1: 52, 4: 53, 2015: 53, 2020: 53, 2021: 52, 2026: 53, 4000: 52} {
		if impl.WeeksOf(year) != want {
			t.Error("WeeksOf", year, impl.WeeksOf(year))
		}
	}
	for _, y := range otherYears() {
		if impl.WeeksOf(y) != 0 {
			t.Error("other year", y, impl.WeeksOf(y))
		}
	}
}

func TestP58WeeksTellDates(t *testing.T) {
	seen := 0
	for year := 1; year <= 4000; year++ {
		for week := 1; week <= impl.WeeksOf(year); week++ {
			for day := 1; day <= 7; day++ {
				d, ok := impl.WeekDate(year, week, day)
				if !ok || impl.DayNumber(d) != seen {
					t.Fatal("WeekDate", year, week, day, d, ok)
				}
				if y, w := impl.WeekOf(d); y != year || w != week || impl.WeekDay(d) != day {
					t.Fatal("WeekOf", year, week, day, y, w)
				}
				seen++
			}
		}
	}
	if seen != impl.LastDay+1 {
		t.Error("days in weeks", seen)
	}
}

func TestP58OtherWeeksHaveNoDates(t *testing.T) {
	check := func(year, week, day int) {
		if d, ok := impl.WeekDate(year, week, day); ok || d != (impl.Date{}) {
			t.Error(year, week, day, d, ok)
		}
	}
	for _, y := range otherYears() {
		check(y, 1, 1)
		check(y, 52, 7)
	}
	for _, week := range []int{math.MinInt, -1, 0, 53, 54, math.MaxInt} {
		check(2021, week, 1)
		check(1, week, 1)
		check(4000, week, 7)
	}
	check(2020, 54, 1)
	check(2020, 0, 7)
	for _, day := range []int{math.MinInt, -1, 0, 8, 9, math.MaxInt} {
		check(2020, 53, day)
		check(1, 1, day)
		check(2021, 10, day)
	}
}
