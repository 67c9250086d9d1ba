package scale_test

import (
	"testing"
	"time"

	"spyglass/api"
	"spyglass/scale"
)

// P7.1: known dates, the first and the last one, and both sides of leap days.
func TestKnownDates(t *testing.T) {
	for _, c := range []struct{ year, month, day, n int }{
		{2000, 1, 1, 0}, {1999, 12, 31, -1}, {2000, 1, 2, 1}, {2000, 2, 29, 59}, {2000, 3, 1, 60}, {2000, 12, 31, 365}, {2001, 1, 1, 366},
		{1970, 1, 1, -10957}, {1858, 11, 17, -51544}, {1582, 10, 15, -152384}, {1, 1, 1, -730119}, {1, 12, 31, -729755},
		{1900, 2, 28, -36466}, {1900, 3, 1, -36465}, {2100, 2, 28, 36583}, {2100, 3, 1, 36584}, {2004, 2, 29, 1520}, {2026, 11, 17, 9817}, {9999, 12, 31, 2921939},
	} {
		if n, e := scale.Days(c.year, c.month, c.day); n != c.n || e != api.OK {
			t.Errorf("Days(%d, %d, %d): got %d, %d, want %d", c.year, c.month, c.day, n, e, c.n)
		}
		if year, month, day, e := scale.Date(c.n); year != c.year || month != c.month || day != c.day || e != api.OK {
			t.Errorf("Date(%d): got %d-%d-%d, %d", c.n, year, month, day, e)
		}
	}
}

// P7.1: every day of all years, compared with package time.
func TestAllDates(t *testing.T) {
	d := time.Date(1, 1, 1, 0, 0, 0, 0, time.UTC)
	for n := -730119; n <= 2921939; n++ {
		year, month, day := d.Date()
		if got, e := scale.Days(year, int(month), day); got != n || e != api.OK {
			t.Fatalf("Days(%d, %d, %d): got %d, %d, want %d", year, month, day, got, e, n)
		}
		if y, m, k, e := scale.Date(n); y != year || m != int(month) || k != day || e != api.OK {
			t.Fatalf("Date(%d): got %d-%d-%d, %d, want %v", n, y, m, k, e, d)
		}
		d = d.Add(24 * time.Hour)
	}
}

// P7.1: of all days and months of some years, only those have a number that package time does not replace by others.
func TestNoDate(t *testing.T) {
	for _, year := range []int{-4, -1, 0, 1, 4, 100, 400, 1900, 1999, 2000, 2001, 2004, 2100, 2400, 9996, 9999, 10000, 10004} {
		for month := -1; month <= 14; month++ {
			for day := -1; day <= 33; day++ {
				d := time.Date(year, time.Month(month), day, 0, 0, 0, 0, time.UTC)
				valid := 1 <= year && year <= 9999 && d.Year() == year && int(d.Month()) == month && d.Day() == day
				n, e := scale.Days(year, month, day)
				if valid && e != api.OK || !valid && (n != 0 || e != api.ErrRange) {
					t.Errorf("Days(%d, %d, %d): got %d, %d", year, month, day, n, e)
				}
			}
		}
	}
	for _, c := range [][3]int{{least, 1, 1}, {most, 1, 1}, {2000, least, 1}, {2000, most, 1}, {2000, 1, least}, {2000, 1, most}, {most, most, most}, {1 << 32, 1, 1}, {2000, 1<<32 + 1, 1}, {2000, 1, 1<<32 + 1}} {
		if n, e := scale.Days(c[0], c[1], c[2]); n != 0 || e != api.ErrRange {
			t.Errorf("Days of %v: got %d, %d", c, n, e)
		}
	}
	for _, n := range []int{-730120, 2921940, -730121, 2921941, -730119 - 146097, 2921939 + 146097, least, least + 1, most, 1 << 32, -1 << 32} {
		if year, month, day, e := scale.Date(n); year != 0 || month != 0 || day != 0 || e != api.ErrRange {
			t.Errorf("Date(%d): got %d-%d-%d, %d", n, year, month, day, e)
		}
	}
}
