package scale_test

import (
	"fmt"
	"regexp"
	"strings"
	"testing"

	"spyglass/api"
	"spyglass/scale"
)

// P7.6: texts and the civil times that they stand for, with each field at its limits.
func TestTexts(t *testing.T) {
	for _, x := range []struct {
		s string
		c scale.Civil
	}{
		{"2026-11-17T08:20:00.125", at(2026, 11, 17, 8, 20, 0, 125)}, {"2000-01-01T00:00:00.000", at(2000, 1, 1, 0, 0, 0, 0)}, {"0001-02-03T04:05:06.007", at(1, 2, 3, 4, 5, 6, 7)}, {"0987-10-30T20:50:40.070", at(987, 10, 30, 20, 50, 40, 70)},
		{"0001-01-01T00:00:00.000", at(1, 1, 1, 0, 0, 0, 0)}, {"9999-12-31T23:59:60.999", at(9999, 12, 31, 23, 59, 60, 999)}, {"2000-02-29T12:34:56.789", at(2000, 2, 29, 12, 34, 56, 789)}, {"0001-02-03T23:59:60.000", at(1, 2, 3, 23, 59, 60, 0)}, {"0088-08-09T09:08:09.080", at(88, 8, 9, 9, 8, 9, 80)},
	} {
		if s, e := scale.Text(x.c); s != x.s || e != api.OK {
			t.Errorf("Text(%v): got %q, %d, want %q", x.c, s, e, x.s)
		}
		if c, e := scale.Read(x.s); c != x.c || e != api.OK {
			t.Errorf("Read(%q): got %v, %d, want %v", x.s, c, e, x.c)
		}
	}
}

// P7.6: civil times that are not valid have no text, and texts with such fields stand for none.
func TestFaultyTexts(t *testing.T) {
	for _, c := range faultyCivils() {
		if s, e := scale.Text(c); s != "" || e != api.ErrRange {
			t.Errorf("Text(%v): got %q, %d", c, s, e)
		}
	}
	for _, s := range []string{
		"0000-01-01T00:00:00.000", "2001-02-29T00:00:00.000", "2000-00-01T00:00:00.000", "2000-13-01T00:00:00.000", "2000-01-00T00:00:00.000", "2000-01-32T00:00:00.000", "2000-01-01T24:00:00.000", "2000-01-01T00:60:00.000", "2000-01-01T00:00:60.000",
		"2000-01-01T22:59:60.000", "2000-01-01T23:58:60.000", "2000-01-01T23:59:61.000", "9999-99-99T99:99:99.999", "0000-00-00T00:00:00.000",
	} {
		if c, e := scale.Read(s); c != (scale.Civil{}) || e != api.ErrRange {
			t.Errorf("Read(%q): got %v, %d", s, c, e)
		}
	}
}

// P7.6: texts of another form, ahead of fields that are out of range.
func TestSyntax(t *testing.T) {
	for _, s := range []string{
		"", "T", "2026", "2026-11-17", "08:20:00.125", "2026-11-17T08:20", "2026-11-17T08:20:00", "2026-11-17T08:20:00.", "2026-11-17T08:20:00.12", "2026-11-17T08:20:00.1250",
		" 2026-11-17T08:20:00.125", "2026-11-17T08:20:00.125 ", "2026-11-17T08:20:00.125\n", "2026-11-17T08:20:00.125Z", "2026-11-17 08:20:00.125", "2026-11-17t08:20:00.125", "2026/11/17T08:20:00.125", "2026-11-17T08.20.00.125", "2026-11-17T08:20:00,125", "2026-11-17T08:20:00:125",
		"2026-1-17T08:20:00.1250", "26-11-17T08:20:00.12500", "02026-11-17T08:20:00.12", "12026-11-17T08:20:00.125", "-026-11-17T08:20:00.125", "+026-11-17T08:20:00.125", "2026-+1-17T08:20:00.125", "2026--1-17T08:20:00.125", "2026-11-17T08:20:00.-12", "2026-11-17T08:20:00.1e2", "2026-11-17T08:20:00.1_2",
		"2026-11-17T 8:20:00.125", "2026-11-17T8 :20:00.125", "2026-11-17T08:20:0x.125", "2026-11-17T08:20:00.12\x00", "2026-11-17T08:20:00.\u0661\u0662", "\u0662026-11-17T08:20:00.12", "2026-11-17T08:20:00.12\xff",
		"9999-99-99T99:99:99,999", "2001-02-29T00:00:00.00", "0000-00-00 00:00:00.000", strings.Repeat("0", 23), strings.Repeat("-", 23), strings.Repeat("2026-11-17T08:20:00.125", 2),
	} {
		if c, e := scale.Read(s); c != (scale.Civil{}) || e != api.ErrSyntax {
			t.Errorf("Read(%q): got %v, %d", s, c, e)
		}
	}
}

// P7.6: a text with any byte at any place, compared with a pattern; Text takes back Read.
func TestEachByte(t *testing.T) {
	pattern := regexp.MustCompile(`^\d{4}-\d{2}-\d{2}T\d{2}:\d{2}:\d{2}\.\d{3}$`)
	for _, text := range []string{"2026-11-17T08:20:00.125", "0400-02-29T23:59:59.000"} {
		for i := range text {
			for b := range 256 {
				s := text[:i] + string([]byte{byte(b)}) + text[i+1:]
				c, e := scale.Read(s)
				if syntax := !pattern.MatchString(s); syntax != (e == api.ErrSyntax) || e != api.OK && c != (scale.Civil{}) {
					t.Errorf("Read(%q): got %v, %d", s, c, e)
				}
				if back, f := scale.Text(c); e == api.OK && (back != s || f != api.OK) {
					t.Errorf("Text(%v): got %q, %d, want %q", c, back, f, s)
				}
			}
			if c, e := scale.Read(text[:i] + text[i+1:]); c != (scale.Civil{}) || e != api.ErrSyntax {
				t.Errorf("Read of %q without byte %d: got %v, %d", text, i, c, e)
			}
			if c, e := scale.Read(text[:i] + "0" + text[i:]); c != (scale.Civil{}) || e != api.ErrSyntax {
				t.Errorf("Read of %q with one more digit at %d: got %v, %d", text, i, c, e)
			}
		}
	}
}

// P7.6: Read takes back Text, for each value of each field.
func TestReadBack(t *testing.T) {
	for i := range 10_000 {
		c := at(1+i%9999, 1+i%12, 1+i%28, i%24, i%60, i*7%60, i%1000)
		s, e := scale.Text(c)
		if want := fmt.Sprintf("%04d-%02d-%02dT%02d:%02d:%02d.%03d", c.Year, c.Month, c.Day, c.Hour, c.Minute, c.Second, c.Milli); s != want || e != api.OK {
			t.Fatalf("Text(%v): got %q, %d", c, s, e)
		}
		if back, e := scale.Read(s); back != c || e != api.OK {
			t.Fatalf("Read(%q): got %v, %d", s, back, e)
		}
	}
}
