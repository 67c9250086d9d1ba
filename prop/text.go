package prop

import (
	"strconv"
	"strings"

	"spyglass/api"
)

// maxDigits is the greatest number of digits of a numeral. No number of a valid programme has more.
const maxDigits = 10

// Text prints a programme: a line for each proposal, then a line for each request.
func Text(p api.Programme) (string, api.Errno) {
	if err := Check(p); err != api.OK {
		return "", err
	}
	text := ""
	for _, q := range p.Proposals {
		text += "proposal " + q.Name + " " + phrase("share", q.Share) + "\n"
	}
	for _, r := range p.Requests {
		text += requestText(r, p.Proposals[r.Proposal].Name) + "\n"
	}
	return text, api.OK
}

// requestText prints a request for the proposal of a name.
func requestText(r api.Request, name string) string {
	parts := []string{
		phrase("request", r.ID), "for " + name, phrase("at", r.At.X, r.At.Y, r.At.Z),
		phrase("len", r.Len), phrase("visits", r.Visits),
	}
	if isRepeated(r) {
		parts = append(parts, phrase("gap", r.Least, r.Most))
	}
	parts = append(parts, phrase("height", r.Height), phrase("moon", r.Moon), phrase("cloud", r.Cloud), phrase("weight", r.Weight))
	return strings.Join(parts, " ")
}

// phrase prints a word and the numbers behind it.
func phrase[T int | int64 | api.Fix](word string, numbers ...T) string {
	for _, n := range numbers {
		word += " " + strconv.FormatInt(int64(n), 10)
	}
	return word
}

// Number reads a decimal numeral: an optional minus sign and 1 to 10 digits, without leading zeros; -0 is not permitted.
func Number(s string) (int64, bool) {
	digits := strings.TrimPrefix(s, "-")
	if !areDigits(digits) || s == "-0" {
		return 0, false
	}
	// So few digits always fit.
	n, _ := strconv.ParseInt(s, 10, 64)
	return n, true
}

// areDigits reports whether s has 1 to maxDigits digits, and no zero before others.
func areDigits(s string) bool {
	if !within(len(s), 1, maxDigits) || s[0] == '0' && len(s) > 1 {
		return false
	}
	for i := range len(s) {
		if !isDigit(s[i]) {
			return false
		}
	}
	return true
}

// Words splits a line at spaces; several spaces count as one, and those at both ends do not count.
func Words(s string) []string {
	return strings.FieldsFunc(s, func(c rune) bool { return c == ' ' })
}
