package frac

import (
	"strconv"
	"strings"

	"spyglass/api"
)

// Text returns a number as text.
func Text(x api.Frac) (string, api.Errno) {
	if err := Check(x); err != api.OK {
		return "", err
	}
	text := strconv.FormatInt(x.Num, 10)
	if x.Den > 1 {
		text += "/" + strconv.FormatInt(x.Den, 10)
	}
	return text, api.OK
}

// Read returns the number that a text stands for.
func Read(s string) (api.Frac, api.Errno) {
	above, below, slash := strings.Cut(s, "/")
	above, minus := strings.CutPrefix(above, "-")
	if !isNumeral(above) || minus && above == "0" {
		return api.Frac{}, api.ErrSyntax
	}
	if !slash {
		below = "1"
	} else if !isNumeral(below) || below == "0" {
		return api.Frac{}, api.ErrSyntax
	}
	n, fits := value(above)
	d, fitsToo := value(below)
	if !fits || !fitsToo {
		return api.Frac{}, api.ErrLarge
	}
	if minus {
		n = -n
	}
	x := api.Frac{Num: n, Den: d}
	if slash && d == 1 || Check(x) != api.OK {
		return api.Frac{}, api.ErrForm
	}
	return x, api.OK
}

// isNumeral reports whether s consists of digits, without a leading 0 unless it is "0".
func isNumeral(s string) bool {
	if s == "" || s[0] == '0' && s != "0" {
		return false
	}
	for i := range len(s) {
		if s[i] < '0' || s[i] > '9' {
			return false
		}
	}
	return true
}

// value returns the number that a numeral stands for; it reports false if that is greater than MaxNum.
func value(numeral string) (int64, bool) {
	// Ten times MaxNum fits only without a sign.
	var n uint64
	for i := range len(numeral) {
		n = 10*n + uint64(numeral[i]-'0')
		if n > api.MaxNum {
			return 0, false
		}
	}
	return int64(n), true
}
