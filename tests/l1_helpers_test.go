package tests

import (
	"math"
	"testing"
	"time"

	"loop.example/sundials/impl"
)

func date(year, month, day int) impl.Date {
	return impl.Date{Year: year, Month: month, Day: day}
}

// timeOf is the date as the standard library counts it, an independent account of the newer calendar.
func timeOf(d impl.Date) time.Time {
	return time.Date(d.Year, time.Month(d.Month), d.Day, 0, 0, 0, 0, time.UTC)
}

// nearInts are numbers round a bound and the ends of all numbers.
func nearInts(bounds ...int) []int {
	list := []int{math.MinInt, math.MinInt + 1, math.MinInt32, -1, 0, 1, math.MaxInt32, math.MaxInt - 1, math.MaxInt}
	for _, b := range bounds {
		list = append(list, b-1, b, b+1)
	}
	return list
}

// years that are not counted.
func otherYears() []int {
	return []int{math.MinInt, -4000, -400, -4, -1, 0, 4001, 4004, 4400, 8000, math.MaxInt}
}

// invalidInBoth are dates of neither calendar.
func invalidInBoth() []impl.Date {
	list := []impl.Date{
		{}, date(2023, 2, 29), date(2024, 2, 30), date(2023, 4, 31), date(2023, 6, 31), date(2023, 9, 31), date(2023, 11, 31),
		date(2023, 1, 32), date(2023, 12, 32), date(2023, 1, 0), date(2023, 3, 0), date(2023, 1, -1), date(2023, 0, 1),
		date(2023, 13, 1), date(2023, -1, 1), date(2023, math.MinInt, 1), date(2023, math.MaxInt, 1),
		date(2023, 1, math.MinInt), date(2023, 1, math.MaxInt), date(math.MinInt, math.MinInt, math.MinInt),
		date(math.MaxInt, math.MaxInt, math.MaxInt),
	}
	for _, y := range otherYears() {
		list = append(list, date(y, 1, 1), date(y, 12, 31), date(y, 2, 29))
	}
	return list
}

// invalidDates are dates that are not of the newer calendar.
func invalidDates() []impl.Date {
	return append(invalidInBoth(), date(1900, 2, 29), date(2100, 2, 29), date(100, 2, 29), date(3900, 2, 29), date(2000, 2, 30))
}

// eachDate calls f for every counted number and its date, walked day by day by the months of the standard library.
func eachDate(t *testing.T, f func(number int, d impl.Date)) {
	t.Helper()
	number := 0
	for year := 1; year <= 4000; year++ {
		for month := 1; month <= 12; month++ {
			long := time.Date(year, time.Month(month)+1, 0, 0, 0, 0, 0, time.UTC).Day()
			for day := 1; day <= long; day++ {
				f(number, date(year, month, day))
				number++
				if t.Failed() {
					t.FailNow()
				}
			}
		}
	}
	if number != impl.LastDay+1 {
		t.Fatal("days in all", number)
	}
}

// eachOldDate calls f for every date of the older calendar and its number, walked day by day.
func eachOldDate(t *testing.T, f func(number int, d impl.Date)) {
	t.Helper()
	long := [13]int{0, 31, 28, 31, 30, 31, 30, 31, 31, 30, 31, 30, 31}
	number := -2
	for year := 1; year <= 4000; year++ {
		for month := 1; month <= 12; month++ {
			days := long[month]
			if month == 2 && year%4 == 0 {
				days++
			}
			for day := 1; day <= days; day++ {
				f(number, date(year, month, day))
				number++
				if t.Failed() {
					t.FailNow()
				}
			}
		}
	}
}

// eachChangedText calls f for a text with one byte changed, put in or left out, and for its beginnings and ends.
func eachChangedText(text string, f func(s string)) {
	for at := range len(text) {
		for b := range 256 {
			one := string([]byte{byte(b)})
			f(text[:at] + one + text[at+1:])
			f(text[:at] + one + text[at:])
		}
		f(text[:at] + text[at+1:])
		f(text[:at])
		f(text[at:])
	}
}
