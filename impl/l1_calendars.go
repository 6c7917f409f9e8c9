package impl

import (
	"strconv"
	"strings"
)

// LastYear is the last year, and LastDay the number of the last day that is counted.
const (
	LastYear = 4000
	LastDay  = 1460969
)

// The days of the week.
const (
	monday = iota + 1
	tuesday
	wednesday
	thursday
	friday
	saturday
	sunday
)

const (
	weekDays = 7
	yearDays = 365
	days4    = 4*yearDays + 1
	days100  = 25*days4 - 1
	days400  = 4*days100 + 1
	oldFirst = -2
	textLong = len("0001-01-01")
)

// Date is a day of a month of a year.
type Date struct {
	Year  int
	Month int
	Day   int
}

// LeapYear reports whether a year in 1..LastYear of the newer calendar has a day more; false for other years.
func LeapYear(year int) bool {
	return yearValid(year) && year%4 == 0 && (year%100 != 0 || year%400 == 0)
}

// YearLong returns how many days a year in 1..LastYear of the newer calendar has, 365 or 366; 0 for other years.
func YearLong(year int) int {
	if !yearValid(year) {
		return 0
	}
	if LeapYear(year) {
		return yearDays + 1
	}
	return yearDays
}

// MonthLong returns how many days a month, in 1..12, of a year in 1..LastYear of the newer calendar has: 31 for the months 1, 3, 5, 7, 8, 10 and 12, 30 for the months 4, 6, 9 and 11, and 29 or 28 for the month 2, for a LeapYear and for another one; 0 for other months and years.
func MonthLong(year int, month int) int {
	if !yearValid(year) {
		return 0
	}
	return monthDays(month, LeapYear(year))
}

// DateValid reports whether a date has a Year in 1..LastYear, a Month in 1..12, and a Day from 1 up to MonthLong.
func DateValid(d Date) bool {
	return d.Day >= 1 && d.Day <= MonthLong(d.Year, d.Month)
}

// DayNumber returns how many days a valid date (DateValid) of the newer calendar is behind the first day of the year 1; -1 for other dates.
func DayNumber(d Date) int {
	if !DateValid(d) {
		return -1
	}
	return daysBeforeYear(d.Year) + DayOfYear(d) - 1
}

// DateOf returns the date of the newer calendar with a number in 0..LastDay (DayNumber), and true; the zero value and false for other numbers.
func DateOf(number int) (Date, bool) {
	if number < 0 || number > LastDay {
		return Date{}, false
	}
	year := yearOf(number)
	return dateInYear(year, number-daysBeforeYear(year), LeapYear(year)), true
}

// DateAdd returns the date that is so many days behind a valid one, or before it, if the number is less than 0, and true; the zero value and false if it is not counted (DateOf), for numbers that are not in -LastDay..LastDay, and for other dates.
func DateAdd(d Date, days int) (Date, bool) {
	if !DateValid(d) || days < -LastDay || days > LastDay {
		return Date{}, false
	}
	return DateOf(DayNumber(d) + days)
}

// DayOfYear returns which day of its year a valid date is, from 1 on; 0 for other dates.
func DayOfYear(d Date) int {
	if !DateValid(d) {
		return 0
	}
	return daysBeforeMonth(d.Month, LeapYear(d.Year)) + d.Day
}

// WeekDay returns the day of the week of a valid date, 1 for Monday up to 7 for Sunday, where the day with the number 0 is a Monday; 0 for other dates.
func WeekDay(d Date) int {
	if !DateValid(d) {
		return 0
	}
	return monday + DayNumber(d)%weekDays
}

// WeekOf returns the year and the number of the week of a valid date, where weeks begin with Monday, and the first week of a year is the one with its fourth day, January 4; the year may be the one before or behind that of the date. It returns 0 and 0 for other dates.
func WeekOf(d Date) (int, int) {
	// The week with January 4 is the one with the first Thursday of the year, so
	// a week has the year of its Thursday. The counted days are whole weeks, from
	// a Monday to a Sunday, so that this Thursday always is one of them.
	middle, ok := DateAdd(d, thursday-WeekDay(d))
	if !ok {
		return 0, 0
	}
	return middle.Year, (DayOfYear(middle)-1)/weekDays + 1
}

// WeeksOf returns how many weeks (WeekOf) a year in 1..LastYear has, 52 or 53; 0 for other years.
func WeeksOf(year int) int {
	// December 28 is in the last week of its year, as January 4 is in the first.
	_, week := WeekOf(Date{Year: year, Month: 12, Day: 28})
	return week
}

// WeekDate returns the date with a year in 1..LastYear, a week in 1..WeeksOf (WeekOf) and a day of the week in 1..7 (WeekDay), and true; the zero value and false if it is not counted (DateOf), and for other arguments.
func WeekDate(year int, week int, day int) (Date, bool) {
	if week < 1 || week > WeeksOf(year) || day < monday || day > sunday {
		return Date{}, false
	}
	fourth := Date{Year: year, Month: 1, Day: 4}
	return DateAdd(fourth, (week-1)*weekDays+day-WeekDay(fourth))
}

// OldValid reports whether a date of the older calendar has a Year in 1..LastYear, a Month in 1..12, and a Day from 1 up to the length of its month, which is as in the newer one, but that the month 2 has 29 days in every year whose number 4 divides.
func OldValid(d Date) bool {
	return yearValid(d.Year) && d.Day >= 1 && d.Day <= monthDays(d.Month, oldLeap(d.Year))
}

// OldNumber returns the number of the day of a valid date of the older calendar (OldValid), where its first day has the number -2, also a number greater than LastDay; -3 for other dates.
func OldNumber(d Date) int {
	if !OldValid(d) {
		return oldFirst - 1
	}
	return oldFirst + oldDaysBeforeYear(d.Year) + daysBeforeMonth(d.Month, oldLeap(d.Year)) + d.Day - 1
}

// OldOf returns the date of the older calendar of the day with a number in -2..LastDay (OldNumber), and true; the zero value and false for other numbers.
func OldOf(number int) (Date, bool) {
	if number < oldFirst || number > LastDay {
		return Date{}, false
	}
	count := number - oldFirst
	year := oldYearOf(count)
	return dateInYear(year, count-oldDaysBeforeYear(year), oldLeap(year)), true
}

// Easter returns the day of Easter of a year in 1..LastYear of the newer calendar, and true: with a the remainder of the year by 19, b the year divided by 100, c its remainder by 100, all divisions rounded down, h the remainder by 30 of 19a + b - b/4 - (8b+13)/25 + 15, and m the sum of a and 11 times h, divided by 319, and w the remainder by 7 of 2 times (the remainder of b by 4) + 2 times (c/4) - (the remainder of c by 4) - h + m + 32, it is in the month (h - m + w + 90)/25, and its day is the remainder by 32 of the sum h - m + w, this month, and 19. It returns the zero value and false for other years.
func Easter(year int) (Date, bool) {
	if !yearValid(year) {
		return Date{}, false
	}
	a, b, c := year%19, year/100, year%100
	h := (19*a + b - b/4 - (8*b+13)/25 + 15) % 30
	m := (a + 11*h) / 319
	w := (2*(b%4) + 2*(c/4) - c%4 - h + m + 32) % weekDays
	month := (h - m + w + 90) / 25
	return Date{Year: year, Month: month, Day: (h - m + w + month + 19) % 32}, true
}

// DateText returns the text of a valid date: the year in four digits, with zeros ahead, a hyphen, the month in two digits, a hyphen, and the day in two digits; "" for other dates.
func DateText(d Date) string {
	if !DateValid(d) {
		return ""
	}
	return padded(d.Year, 4) + "-" + padded(d.Month, 2) + "-" + padded(d.Day, 2)
}

// ReadDate returns the date whose DateText a text is, and true; the zero value and false if there is none.
func ReadDate(s string) (Date, bool) {
	if len(s) != textLong {
		return Date{}, false
	}
	// What is no digit gives some number here; the text of the date then differs.
	d := Date{Year: digitSum(s[:4]), Month: digitSum(s[5:7]), Day: digitSum(s[8:])}
	if DateText(d) != s {
		return Date{}, false
	}
	return d, true
}

func yearValid(year int) bool {
	return year >= 1 && year <= LastYear
}

// monthDays serves both calendars, which differ only in which years are leap years.
func monthDays(month int, leap bool) int {
	switch month {
	case 1, 3, 5, 7, 8, 10, 12:
		return 31
	case 4, 6, 9, 11:
		return 30
	case 2:
		if leap {
			return 29
		}
		return 28
	}
	return 0
}

func daysBeforeMonth(month int, leap bool) int {
	days := 0
	for before := 1; before < month; before++ {
		days += monthDays(before, leap)
	}
	return days
}

func daysBeforeYear(year int) int {
	whole := year - 1
	return whole*yearDays + whole/4 - whole/100 + whole/400
}

// yearOf bounds two quotients by 3: the last of four centuries, and the last of
// four years, may have a day more than the others, which would count as a fifth.
func yearOf(number int) int {
	rest := number % days400
	hundreds := min(rest/days100, 3)
	rest -= hundreds * days100
	years := min(rest%days4/yearDays, 3)
	return number/days400*400 + hundreds*100 + rest/days4*4 + years + 1
}

func oldLeap(year int) bool {
	return year%4 == 0
}

func oldDaysBeforeYear(year int) int {
	whole := year - 1
	return whole*yearDays + whole/4
}

// oldYearOf counts from the first day of the older calendar; it bounds a quotient as yearOf does.
func oldYearOf(count int) int {
	return count/days4*4 + min(count%days4/yearDays, 3) + 1
}

// dateInYear returns the date so many days behind the first day of a year. The
// last month takes what is left, so that the loop ends whatever it is given.
func dateInYear(year int, behind int, leap bool) Date {
	month := 1
	for month < 12 && behind >= monthDays(month, leap) {
		behind -= monthDays(month, leap)
		month++
	}
	return Date{Year: year, Month: month, Day: behind + 1}
}

func padded(number int, wide int) string {
	digits := strconv.Itoa(number)
	return strings.Repeat("0", max(wide-len(digits), 0)) + digits
}

func digitSum(s string) int {
	sum := 0
	for i := range len(s) {
		sum = sum*10 + int(s[i]) - '0'
	}
	return sum
}
