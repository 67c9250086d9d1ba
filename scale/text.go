package scale

import (
	"strconv"
	"strings"

	"spyglass/api"
)

// layout is the form of the text of a civil time, in which 0 stands for any digit.
const layout = "0000-00-00T00:00:00.000"

// Text returns a civil time as text, such as 2026-11-17T08:20:00.125.
func Text(c Civil) (string, api.Errno) {
	if err := Check(c); err != api.OK {
		return "", err
	}
	date := padded(c.Year, 4) + "-" + padded(c.Month, 2) + "-" + padded(c.Day, 2)
	time := padded(c.Hour, 2) + ":" + padded(c.Minute, 2) + ":" + padded(c.Second, 2) + "." + padded(c.Milli, 3)
	return date + "T" + time, api.OK
}

// padded returns n with leading zeros; n is not negative and has at most width digits.
func padded(n, width int) string {
	digits := strconv.Itoa(n)
	return strings.Repeat("0", width-len(digits)) + digits
}

// Read returns the civil time that a text stands for.
func Read(s string) (Civil, api.Errno) {
	if !isLaidOut(s) {
		return Civil{}, api.ErrSyntax
	}
	c := Civil{
		Year: value(s[:4]), Month: value(s[5:7]), Day: value(s[8:10]),
		Hour: value(s[11:13]), Minute: value(s[14:16]), Second: value(s[17:19]), Milli: value(s[20:]),
	}
	if err := Check(c); err != api.OK {
		return Civil{}, err
	}
	return c, api.OK
}

// isLaidOut reports whether s has the form of layout.
func isLaidOut(s string) bool {
	if len(s) != len(layout) {
		return false
	}
	for i := range len(s) {
		if layout[i] == '0' {
			if s[i] < '0' || s[i] > '9' {
				return false
			}
		} else if s[i] != layout[i] {
			return false
		}
	}
	return true
}

// value returns the number that some digits stand for.
func value(digits string) int {
	n, _ := strconv.Atoi(digits)
	return n
}
