package scale

import (
	"sort"

	"spyglass/api"
)

// Days returns the number of days from 2000-01-01 to a date.
func Days(year, month, day int) (int, api.Errno) {
	if year < 1 || year > MaxYear || month < 1 || month > 12 || day < 1 || day > monthLength(year, month) {
		return 0, api.ErrRange
	}
	days := newYear(year) + day - 1
	for m := 1; m < month; m++ {
		days += monthLength(year, m)
	}
	return days, api.OK
}

// Date returns the date that is a number of days after 2000-01-01.
func Date(day int) (int, int, int, api.Errno) {
	if day < newYear(1) || day >= newYear(MaxYear+1) {
		return 0, 0, 0, api.ErrRange
	}
	year := 1 + sort.Search(MaxYear, func(past int) bool { return day < newYear(past+2) })
	month, rest := 1, day-newYear(year)
	for rest >= monthLength(year, month) {
		rest -= monthLength(year, month)
		month++
	}
	return year, month, rest + 1, api.OK
}

// newYear returns the number of days from 2000-01-01 to the first day of a year, which is at least 1.
func newYear(year int) int { return daysOf(year-1) - daysOf(1999) }

// daysOf returns the number of days of the first years, from year 1 on.
func daysOf(years int) int { return 365*years + years/4 - years/100 + years/400 }

// monthLength returns the number of days of a month.
func monthLength(year, month int) int {
	switch month {
	case 2:
		// What the other months leave of the year, so that the rule of leap years is in one place.
		return daysOf(year) - daysOf(year-1) - 337
	case 4, 6, 9, 11:
		return 30
	}
	return 31
}
