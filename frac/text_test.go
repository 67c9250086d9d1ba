package frac_test

import (
	"math/big"
	"regexp"
	"strings"
	"testing"

	"spyglass/api"
	"spyglass/frac"
)

// P3.5: ordinary numbers, whole ones, the limits, and the errors of Check.
func TestText(t *testing.T) {
	for _, c := range []struct {
		x    api.Frac
		want string
		e    api.Errno
	}{
		{of(-3, 4), "-3/4", api.OK},
		{of(3, 4), "3/4", api.OK},
		{of(12, 1), "12", api.OK},
		{of(-12, 1), "-12", api.OK},
		{of(0, 1), "0", api.OK},
		{of(1, 10), "1/10", api.OK},
		{of(top, 1), "1152921504606846976", api.OK},
		{of(-top, top-1), "-1152921504606846976/1152921504606846975", api.OK},
		{of(1, top), "1/1152921504606846976", api.OK},
		{of(2, 4), "", api.ErrForm},
		{of(0, 5), "", api.ErrForm},
		{of(1, -2), "", api.ErrRange},
		{of(2, 0), "", api.ErrRange},
		{of(top+1, 1), "", api.ErrRange},
	} {
		if s, e := frac.Text(c.x); s != c.want || e != c.e {
			t.Errorf("Text(%v): got %q, %d, want %q, %d", c.x, s, e, c.want, c.e)
		}
	}
	for _, x := range invalid() {
		if s, e := frac.Text(x); s != "" || e != faulty(x) {
			t.Errorf("Text(%v): got %q, %d", x, s, e)
		}
	}
}

// P3.6: texts of each form, and the errors with their order.
func TestRead(t *testing.T) {
	const over, huge = "1152921504606846977", "99999999999999999999999999999999999999999"
	for _, c := range []struct {
		s    string
		want api.Frac
		e    api.Errno
	}{
		{"-3/4", of(-3, 4), api.OK},
		{"3/4", of(3, 4), api.OK},
		{"12", of(12, 1), api.OK},
		{"-12", of(-12, 1), api.OK},
		{"0", of(0, 1), api.OK},
		{"100/7", of(100, 7), api.OK},
		{"1/10", of(1, 10), api.OK},
		{"1152921504606846976", of(top, 1), api.OK},
		{"-1152921504606846976/1152921504606846975", of(-top, top-1), api.OK},
		{"1/1152921504606846976", of(1, top), api.OK},
		{"", api.Frac{}, api.ErrSyntax},
		{"-", api.Frac{}, api.ErrSyntax},
		{"/", api.Frac{}, api.ErrSyntax},
		{"1/", api.Frac{}, api.ErrSyntax},
		{"/2", api.Frac{}, api.ErrSyntax},
		{"-/2", api.Frac{}, api.ErrSyntax},
		{"1//2", api.Frac{}, api.ErrSyntax},
		{"1/2/3", api.Frac{}, api.ErrSyntax},
		{"1/2/", api.Frac{}, api.ErrSyntax},
		{"+1", api.Frac{}, api.ErrSyntax},
		{"--1", api.Frac{}, api.ErrSyntax},
		{"1/-2", api.Frac{}, api.ErrSyntax},
		{"1/+2", api.Frac{}, api.ErrSyntax},
		{"1-", api.Frac{}, api.ErrSyntax},
		{"07", api.Frac{}, api.ErrSyntax},
		{"00", api.Frac{}, api.ErrSyntax},
		{"-07", api.Frac{}, api.ErrSyntax},
		{"1/02", api.Frac{}, api.ErrSyntax},
		{"1/00", api.Frac{}, api.ErrSyntax},
		{" 1", api.Frac{}, api.ErrSyntax},
		{"1 ", api.Frac{}, api.ErrSyntax},
		{"1 /2", api.Frac{}, api.ErrSyntax},
		{"1/2\n", api.Frac{}, api.ErrSyntax},
		{"1\x00", api.Frac{}, api.ErrSyntax},
		{"1_000", api.Frac{}, api.ErrSyntax},
		{"0x1", api.Frac{}, api.ErrSyntax},
		{"1e3", api.Frac{}, api.ErrSyntax},
		{"1.5", api.Frac{}, api.ErrSyntax},
		{"\u0663", api.Frac{}, api.ErrSyntax},
		{"1/\uff12", api.Frac{}, api.ErrSyntax},
		{"\xff", api.Frac{}, api.ErrSyntax},
		{"\u22121", api.Frac{}, api.ErrSyntax},
		{"-0", api.Frac{}, api.ErrSyntax},
		{"-0/5", api.Frac{}, api.ErrSyntax},
		{"3/0", api.Frac{}, api.ErrSyntax},
		{"0/0", api.Frac{}, api.ErrSyntax},
		{over, api.Frac{}, api.ErrLarge},
		{"-" + over, api.Frac{}, api.ErrLarge},
		{"1/" + over, api.Frac{}, api.ErrLarge},
		{huge, api.Frac{}, api.ErrLarge},
		{"1/" + huge, api.Frac{}, api.ErrLarge},
		{huge + "/" + huge, api.Frac{}, api.ErrLarge},
		// Twice 2^64 + 1, which would be 2 if what exceeds 64 bits were lost.
		{"36893488147419103234", api.Frac{}, api.ErrLarge},
		{"9223372036854775808", api.Frac{}, api.ErrLarge},
		{"18446744073709551617", api.Frac{}, api.ErrLarge},
		{"3/1", api.Frac{}, api.ErrForm},
		{"-3/1", api.Frac{}, api.ErrForm},
		{"0/1", api.Frac{}, api.ErrForm},
		{"0/5", api.Frac{}, api.ErrForm},
		{"6/4", api.Frac{}, api.ErrForm},
		{"-6/4", api.Frac{}, api.ErrForm},
		{"2/2", api.Frac{}, api.ErrForm},
		{"1152921504606846976/2", api.Frac{}, api.ErrForm},
		// Several errors apply.
		{huge + "/0", api.Frac{}, api.ErrSyntax},
		{huge + "/01", api.Frac{}, api.ErrSyntax},
		{huge + "x", api.Frac{}, api.ErrSyntax},
		{"-0/" + huge, api.Frac{}, api.ErrSyntax},
		{"0" + huge, api.Frac{}, api.ErrSyntax},
		{huge + "/1", api.Frac{}, api.ErrLarge},
		{"0/" + huge, api.Frac{}, api.ErrLarge},
		{"1152921504606846978/2", api.Frac{}, api.ErrLarge},
		{"2/1152921504606846978", api.Frac{}, api.ErrLarge},
	} {
		if x, e := frac.Read(c.s); x != c.want || e != c.e {
			t.Errorf("Read(%q): got %v, %d, want %v, %d", c.s, x, e, c.want, c.e)
		}
	}
}

// reading is what Read should return, by a pattern and exact arithmetic.
func reading(s string) (api.Frac, api.Errno) {
	form := regexp.MustCompile(`^(0|-?[1-9][0-9]*)(?:/([1-9][0-9]*))?\z`)
	parts := form.FindStringSubmatch(s)
	if parts == nil {
		return api.Frac{}, api.ErrSyntax
	}
	n, _ := new(big.Int).SetString(parts[1], 10)
	d := big.NewInt(1)
	if parts[2] != "" {
		d, _ = new(big.Int).SetString(parts[2], 10)
	}
	limit := big.NewInt(top)
	if n.CmpAbs(limit) > 0 || d.CmpAbs(limit) > 0 {
		return api.Frac{}, api.ErrLarge
	}
	common := new(big.Int).GCD(nil, nil, new(big.Int).Abs(n), d)
	if parts[2] == "1" || common.Cmp(big.NewInt(1)) > 0 {
		return api.Frac{}, api.ErrForm
	}
	return of(n.Int64(), d.Int64()), api.OK
}

// texts calls f with all texts of at most length bytes of an alphabet.
func texts(alphabet string, length int, f func(s string)) {
	f("")
	if length == 0 {
		return
	}
	for _, c := range alphabet {
		texts(alphabet, length-1, func(s string) { f(string(c) + s) })
	}
}

// P3.6: all short texts, as the pattern reads them.
func TestReadAll(t *testing.T) {
	texts("-/+0126 ", 5, func(s string) {
		want, err := reading(s)
		if x, e := frac.Read(s); x != want || e != err {
			t.Errorf("Read(%q): got %v, %d, want %v, %d", s, x, e, want, err)
		}
	})
}

// P3.6: texts with a numeral near the limits or very long.
func TestReadLarge(t *testing.T) {
	list := []string{"0", "1", "7", "1152921504606846975", "1152921504606846976", "1152921504606846977", "1152921504606846980", "2305843009213693952", "9223372036854775807", "9223372036854775808", "18446744073709551615", "18446744073709551616", "11529215046068469760", strings.Repeat("9", 5000), "1" + strings.Repeat("0", 5000)}
	for _, a := range list {
		for _, b := range list {
			for _, s := range []string{a, "-" + a, a + "/" + b, "-" + a + "/" + b, a + "/" + b + "x", a + b} {
				want, err := reading(s)
				if x, e := frac.Read(s); x != want || e != err {
					t.Errorf("Read(%q): got %v, %d, want %v, %d", s, x, e, want, err)
				}
			}
		}
	}
}

// P3.5, P3.6: what Text returns, Read reads; it is the only text that is read as this number.
func TestTextRead(t *testing.T) {
	for _, x := range append(small(), far()...) {
		s, e := frac.Text(x)
		if e != api.OK {
			t.Fatalf("Text(%v): error %d", x, e)
		}
		if y, e := frac.Read(s); y != x || e != api.OK {
			t.Errorf("Read(%q): got %v, %d, want %v", s, y, e, x)
		}
	}
	texts("-/0123", 5, func(s string) {
		if x, e := frac.Read(s); e == api.OK {
			if back, _ := frac.Text(x); back != s {
				t.Errorf("%q is read, but the text is %q", s, back)
			}
		}
	})
}
