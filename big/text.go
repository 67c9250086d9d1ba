package big

import (
	"slices"
	"strconv"
	"strings"

	"spyglass/api"
)

// Texts are made and read in groups of as many digits as fit into a word whatever they are.
const (
	groupDigits = 19
	groupUnit   = 10_000_000_000_000_000_000
)

// Text returns a number in decimal.
func Text(a Int) string {
	if a.large == nil {
		return strconv.FormatInt(a.small, 10)
	}
	var groups []uint64
	for words := slices.Clone(magnitude(a)); len(words) > 0; words = trimmed(words) {
		groups = append(groups, divideWord(words, groupUnit))
	}
	var text strings.Builder
	if Sign(a) < 0 {
		text.WriteByte('-')
	}
	for i := len(groups) - 1; i >= 0; i-- {
		digits := strconv.FormatUint(groups[i], 10)
		if i < len(groups)-1 {
			text.WriteString(strings.Repeat("0", groupDigits-len(digits)))
		}
		text.WriteString(digits)
	}
	return text.String()
}

// Read returns the number that a text stands for.
func Read(s string) (Int, api.Errno) {
	digits, minus := strings.CutPrefix(s, "-")
	if !isNumeral(digits) || minus && digits == "0" {
		return Int{}, api.ErrSyntax
	}
	var words []uint64
	for len(digits) > 0 {
		group := digits[:min(groupDigits, len(digits))]
		digits = digits[len(group):]
		words = appended(words, group)
		// Further digits only make it larger: to stop here keeps the time short, however long the text is.
		if bitLen(words) > MaxBits {
			return Int{}, api.ErrLarge
		}
	}
	return signed(minus, words), api.OK
}

// isNumeral reports whether s consists of digits, without a leading 0 unless it is "0".
func isNumeral(s string) bool {
	if s == "" || s[0] == '0' && s != "0" {
		return false
	}
	for i := range len(s) {
		if s[i] < '0' || s[i] > '9' {
			return false
		}
	}
	return true
}

// appended returns the number whose digits are those of a and then those of a group.
func appended(a []uint64, group string) []uint64 {
	unit, value := uint64(1), uint64(0)
	for i := range len(group) {
		unit, value = 10*unit, 10*value+uint64(group[i]-'0')
	}
	total := make([]uint64, len(a)+1)
	total[0] = value
	addScaled(total, a, unit)
	return trimmed(total)
}
