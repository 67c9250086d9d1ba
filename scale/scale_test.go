package scale_test

import (
	"math/rand/v2"
	"slices"
	"testing"
	"time"

	"spyglass/api"
	"spyglass/scale"
)

// successive returns n leap seconds on successive days from a day on, all with the same Step.
func successive(n, day, step int) leaps {
	var l leaps
	for i := range n {
		l = append(l, api.Leap{Day: day + i, Step: step})
	}
	return l
}

// faultyLeaps returns tables that are not valid, each with the error of the table.
func faultyLeaps() []struct {
	l leaps
	e api.Errno
} {
	return []struct {
		l leaps
		e api.Errno
	}{
		{successive(65, 0, 1), api.ErrLarge},
		{make(leaps, 65), api.ErrLarge},
		{make(leaps, 1000), api.ErrLarge},
		{make(leaps, 64), api.ErrArg},
		{leaps{{}}, api.ErrArg},
		{leaps{{Day: 5, Step: 0}}, api.ErrArg},
		{leaps{{Day: 5, Step: 2}}, api.ErrArg},
		{leaps{{Day: 5, Step: -2}}, api.ErrArg},
		{leaps{{Day: 5, Step: least}}, api.ErrArg},
		{leaps{{Day: 5, Step: most}}, api.ErrArg},
		{leaps{{Day: 200_001, Step: 0}}, api.ErrArg},
		{leaps{{Day: 200_001, Step: 1}}, api.ErrRange},
		{leaps{{Day: -200_001, Step: -1}}, api.ErrRange},
		{leaps{{Day: most, Step: 1}}, api.ErrRange},
		{leaps{{Day: least, Step: 1}}, api.ErrRange},
		{leaps{{Day: 5, Step: 1}, {Day: 5, Step: 1}}, api.ErrOrder},
		{leaps{{Day: 5, Step: 1}, {Day: 5, Step: -1}}, api.ErrOrder},
		{leaps{{Day: 5, Step: 1}, {Day: 4, Step: 1}}, api.ErrOrder},
		{leaps{{Day: 4, Step: 1}, {Day: 6, Step: 1}, {Day: 5, Step: 1}}, api.ErrOrder},
		// The order of the errors: of one entry, and the first entry with an error.
		{leaps{{Day: 5, Step: 1}, {Day: 5, Step: 0}}, api.ErrArg},
		{leaps{{Day: 5, Step: 1}, {Day: -200_001, Step: 1}}, api.ErrRange},
		{leaps{{Day: 5, Step: 1}, {Day: 5, Step: 1}, {Day: 6, Step: 0}}, api.ErrOrder},
		{leaps{{Day: 200_001, Step: 1}, {Day: 6, Step: 0}}, api.ErrRange},
		{leaps{{Day: 200_001, Step: 1}, {Day: 5, Step: 1}}, api.ErrRange},
	}
}

// P7.2: valid tables, the limits, each error, and the order of the errors.
func TestCheckLeaps(t *testing.T) {
	for i, l := range []leaps{
		nil, {}, {{Day: 0, Step: 1}}, {{Day: 5, Step: 1}, {Day: 6, Step: -1}}, {{Day: -6, Step: -1}, {Day: -5, Step: -1}, {Day: 0, Step: 1}, {Day: 99, Step: 1}},
		{{Day: -200_000, Step: 1}, {Day: 200_000, Step: -1}}, successive(64, -7, 1), successive(64, 200_000-63, -1), successive(64, -200_000, 1),
	} {
		if e := scale.CheckLeaps(l); e != api.OK {
			t.Errorf("valid table %d: %d", i, e)
		}
	}
	for i, c := range faultyLeaps() {
		if e := scale.CheckLeaps(c.l); e != c.e {
			t.Errorf("faulty table %d: got %d, want %d", i, e, c.e)
		}
	}
}

// faultyCivils returns civil times that are not valid.
func faultyCivils() []scale.Civil {
	return []scale.Civil{
		{}, at(0, 1, 1, 0, 0, 0, 0), at(10000, 1, 1, 0, 0, 0, 0), at(-1, 1, 1, 0, 0, 0, 0), at(2001, 2, 29, 0, 0, 0, 0), at(2000, 0, 1, 0, 0, 0, 0), at(2000, 13, 1, 0, 0, 0, 0), at(2000, 1, 0, 0, 0, 0, 0), at(2000, 6, 31, 0, 0, 0, 0),
		at(2000, 1, 1, -1, 0, 0, 0), at(2000, 1, 1, 24, 0, 0, 0), at(2000, 1, 1, 0, -1, 0, 0), at(2000, 1, 1, 0, 60, 0, 0), at(2000, 1, 1, 0, 0, -1, 0), at(2000, 1, 1, 0, 0, 60, 0), at(2000, 1, 1, 0, 0, 0, -1), at(2000, 1, 1, 0, 0, 0, 1000),
		at(2000, 1, 1, 23, 58, 60, 0), at(2000, 1, 1, 22, 59, 60, 0), at(2000, 1, 1, 0, 59, 60, 0), at(2000, 1, 1, 23, 59, 61, 0), at(2000, 1, 1, 23, 59, -1, 0), at(2000, 1, 1, 23, 59, 60, 1000), at(2000, 1, 1, 23, 60, 0, 0), at(2000, 1, 1, 24, 59, 60, 0),
		at(most, 1, 1, 0, 0, 0, 0), at(least, 1, 1, 0, 0, 0, 0), at(2000, 1, 1, most, 0, 0, 0), at(2000, 1, 1, least, 0, 0, 0), at(2000, 1, 1, 0, most, 0, 0), at(2000, 1, 1, 0, least, 0, 0), at(2000, 1, 1, 0, 0, most, 0), at(2000, 1, 1, 0, 0, least, 0), at(2000, 1, 1, 0, 0, 0, most), at(2000, 1, 1, 0, 0, 0, least),
	}
}

// P7.3: valid civil times with each field at its limits, and those that are not valid.
func TestCheck(t *testing.T) {
	for _, c := range []scale.Civil{
		at(2000, 1, 1, 0, 0, 0, 0), at(2026, 11, 17, 8, 20, 0, 125), at(1, 1, 1, 0, 0, 0, 0), at(9999, 12, 31, 23, 59, 60, 999), at(2000, 2, 29, 12, 30, 30, 500),
		at(2000, 1, 1, 23, 59, 60, 0), at(2000, 1, 1, 23, 59, 59, 999), at(2000, 1, 1, 23, 58, 59, 0), at(2000, 1, 1, 22, 59, 59, 0), at(2000, 1, 1, 0, 0, 59, 999), at(2000, 1, 1, 0, 59, 0, 0), at(2000, 1, 1, 23, 0, 0, 0),
	} {
		if e := scale.Check(c); e != api.OK {
			t.Errorf("Check of %v is %d", c, e)
		}
	}
	for _, c := range faultyCivils() {
		if e := scale.Check(c); e != api.ErrRange {
			t.Errorf("Check of %v is %d", c, e)
		}
	}
}

// P7.4, P7.5: civil times and uniform times that belong together.
func TestKnownTimes(t *testing.T) {
	l := leaps{{Day: 365, Step: 1}, {Day: 400, Step: -1}}
	for i, x := range []struct {
		c scale.Civil
		l leaps
		t api.Tick
	}{
		{at(2000, 1, 1, 0, 0, 0, 0), nil, 0}, {at(2000, 1, 1, 0, 0, 0, 0), l, 0}, {at(2000, 1, 1, 0, 0, 0, 1), l, 1}, {at(1999, 12, 31, 23, 59, 59, 999), l, -1}, {at(2000, 1, 1, 1, 2, 3, 4), l, 3_723_004}, {at(1999, 12, 31, 0, 0, 0, 0), l, -86_400_000},
		{at(2000, 12, 31, 23, 59, 59, 999), l, 31_622_399_999}, {at(2000, 12, 31, 23, 59, 60, 0), l, 31_622_400_000}, {at(2000, 12, 31, 23, 59, 60, 500), l, 31_622_400_500}, {at(2000, 12, 31, 23, 59, 60, 999), l, 31_622_400_999}, {at(2001, 1, 1, 0, 0, 0, 0), l, 31_622_401_000}, {at(2001, 1, 1, 0, 0, 0, 0), nil, 31_622_400_000},
		{at(2001, 2, 4, 0, 0, 0, 0), l, 34_560_001_000}, {at(2001, 2, 4, 23, 59, 58, 999), l, 34_646_399_999}, {at(2001, 2, 5, 0, 0, 0, 0), l, 34_646_400_000}, {at(2001, 2, 5, 23, 59, 59, 0), l, 34_732_799_000},
		// A leap second counts from the end of its day on, also before 2000 and on the day before it.
		{at(2000, 1, 1, 0, 0, 0, 0), leaps{{Day: -1, Step: 1}}, 1000}, {at(1999, 12, 31, 23, 59, 60, 0), leaps{{Day: -1, Step: 1}}, 0}, {at(1999, 12, 31, 0, 0, 0, 0), leaps{{Day: -1, Step: 1}}, -86_400_000},
		{at(2000, 1, 1, 0, 0, 0, 0), leaps{{Day: -1, Step: -1}}, -1000}, {at(2000, 1, 1, 0, 0, 1, 0), leaps{{Day: -1, Step: -1}}, 0}, {at(1999, 12, 31, 23, 59, 58, 0), leaps{{Day: -1, Step: -1}}, -2000},
		{at(2000, 1, 2, 0, 0, 0, 0), leaps{{Day: 0, Step: 1}}, 86_401_000}, {at(2000, 1, 1, 23, 59, 60, 0), leaps{{Day: 0, Step: 1}}, 86_400_000},
		{at(2000, 1, 1, 0, 0, 0, 0), successive(64, -100, 1), 64_000}, {at(1999, 12, 31, 23, 58, 56, 0), successive(64, -100, 1), 0}, {at(2000, 1, 1, 0, 1, 4, 0), successive(64, -100, -1), 0}, {at(2000, 1, 1, 0, 0, 0, 0), successive(64, -100, -1), -64_000},
	} {
		if u, e := scale.ToUniform(x.c, x.l); u != x.t || e != api.OK {
			t.Errorf("case %d: ToUniform: got %d, %d, want %d", i, u, e, x.t)
		}
		if c, e := scale.ToCivil(x.t, x.l); c != x.c || e != api.OK {
			t.Errorf("case %d: ToCivil: got %v, %d, want %v", i, c, e, x.c)
		}
	}
}

// P7.4: seconds that a day does not have.
func TestNoSecond(t *testing.T) {
	l := leaps{{Day: -1, Step: 1}, {Day: 0, Step: -1}, {Day: 3, Step: 1}}
	for i, x := range []struct {
		c scale.Civil
		l leaps
		e api.Errno
	}{
		{at(1999, 12, 31, 23, 59, 60, 0), l, api.OK}, {at(1999, 12, 31, 23, 59, 59, 0), l, api.OK},
		{at(2000, 1, 1, 23, 59, 58, 999), l, api.OK}, {at(2000, 1, 1, 23, 59, 59, 0), l, api.ErrNone}, {at(2000, 1, 1, 23, 59, 59, 999), l, api.ErrNone}, {at(2000, 1, 1, 23, 59, 60, 0), l, api.ErrNone}, {at(2000, 1, 1, 22, 59, 59, 0), l, api.OK},
		{at(2000, 1, 2, 23, 59, 59, 999), l, api.OK}, {at(2000, 1, 2, 23, 59, 60, 0), l, api.ErrNone}, {at(2000, 1, 2, 23, 59, 60, 999), l, api.ErrNone},
		{at(2000, 1, 3, 23, 59, 60, 0), l, api.ErrNone}, {at(2000, 1, 4, 23, 59, 60, 0), l, api.OK}, {at(2000, 1, 5, 23, 59, 60, 0), l, api.ErrNone},
		{at(2000, 12, 31, 23, 59, 60, 500), nil, api.ErrNone}, {at(2000, 12, 31, 23, 59, 60, 500), leaps{{Day: 365, Step: 1}}, api.OK},
		// Far from 2000 it is ErrNone before ErrLarge.
		{at(9999, 12, 31, 23, 59, 60, 0), l, api.ErrNone}, {at(1, 1, 1, 23, 59, 60, 0), l, api.ErrNone}, {at(9999, 12, 31, 23, 59, 59, 0), l, api.ErrLarge}, {at(1, 1, 1, 23, 59, 59, 0), l, api.ErrLarge},
	} {
		if u, e := scale.ToUniform(x.c, x.l); e != x.e || e != api.OK && u != 0 {
			t.Errorf("case %d: got %d, %d, want %d", i, u, e, x.e)
		}
	}
}

// P7.4: each error of the arguments, and their order.
func TestToUniformErrors(t *testing.T) {
	for _, c := range faultyCivils() {
		for _, l := range []leaps{nil, {{Day: 0, Step: 1}}, {{}}, make(leaps, 65)} {
			if u, e := scale.ToUniform(c, l); u != 0 || e != api.ErrRange {
				t.Errorf("ToUniform of %v: %d, %d", c, u, e)
			}
		}
	}
	for i, f := range faultyLeaps() {
		for _, c := range []scale.Civil{at(2000, 1, 1, 0, 0, 0, 0), at(2000, 1, 6, 23, 59, 60, 0), at(9999, 12, 31, 0, 0, 0, 0)} {
			if u, e := scale.ToUniform(c, f.l); u != 0 || e != f.e {
				t.Errorf("ToUniform with table %d: %d, %d, not %d", i, u, e, f.e)
			}
		}
	}
}

// P7.5: each error of the arguments, and their order.
func TestToCivilErrors(t *testing.T) {
	for _, u := range []api.Tick{end + 1, -end - 1, most, least} {
		for _, l := range []leaps{nil, {{Day: 0, Step: 1}}, {{}}, make(leaps, 65)} {
			if c, e := scale.ToCivil(u, l); c != (scale.Civil{}) || e != api.ErrRange {
				t.Errorf("ToCivil(%d): %v, %d", u, c, e)
			}
		}
	}
	for i, f := range faultyLeaps() {
		for _, u := range []api.Tick{0, end, -end} {
			if c, e := scale.ToCivil(u, f.l); c != (scale.Civil{}) || e != f.e {
				t.Errorf("ToCivil with table %d: %v, %d, not %d", i, c, e, f.e)
			}
		}
	}
}

// plain returns the civil time at a uniform time by package time, which has no leap seconds.
func plain(u api.Tick) scale.Civil {
	d := time.UnixMilli(time.Date(2000, 1, 1, 0, 0, 0, 0, time.UTC).UnixMilli() + int64(u)).UTC()
	return at(d.Year(), int(d.Month()), d.Day(), d.Hour(), d.Minute(), d.Second(), d.Nanosecond()/1_000_000)
}

// P7.4, P7.5: the first and the last time, and the civil times beyond them, without leap seconds and with some.
func TestLimitsOfTimes(t *testing.T) {
	for i, x := range []struct {
		u, past api.Tick
		l       leaps
		ahead   api.Tick // of uniform time at u, by the leap seconds before it
	}{
		{end, 1, nil, 0}, {end, 1, successive(64, -300, 1), 64_000}, {end, 1, successive(64, -300, -1), -64_000}, {end, 1, successive(10, 199_990, 1), 10_000}, {end, 1, successive(10, -200_000, -1), -10_000},
		{-end, -1, nil, 0}, {-end, -1, successive(64, -300, 1), 0}, {-end, -1, successive(10, -200_000, -1), 0},
	} {
		c := plain(x.u - x.ahead)
		if got, e := scale.ToCivil(x.u, x.l); got != c || e != api.OK {
			t.Errorf("case %d: ToCivil: got %v, %d, want %v", i, got, e, c)
		}
		if got, e := scale.ToUniform(c, x.l); got != x.u || e != api.OK {
			t.Errorf("case %d: ToUniform: got %d, %d", i, got, e)
		}
		if got, e := scale.ToUniform(plain(x.u-x.ahead+x.past), x.l); got != 0 || e != api.ErrLarge {
			t.Errorf("case %d: ToUniform beyond the limit: got %d, %d", i, got, e)
		}
	}
}

// P7.4, P7.5: every second of days with leap seconds of both sorts, counted one after another.
func TestEverySecond(t *testing.T) {
	l := leaps{{Day: -4, Step: 1}, {Day: -3, Step: -1}, {Day: 0, Step: 1}, {Day: 1, Step: 1}, {Day: 3, Step: -1}}
	steps := map[int]int{-4: 1, -3: -1, 0: 1, 1: 1, 3: -1}
	u := api.Tick(-5 * 86_400_000)
	for day := -5; day < 6; day++ {
		for second := range 86_400 + steps[day] {
			c := plain(api.Tick(day*86_400_000 + second*1000))
			if second == 86_400 {
				c = plain(api.Tick(day*86_400_000 + 86_399_000))
				c.Second = 60
			}
			if got, e := scale.ToUniform(c, l); got != u || e != api.OK {
				t.Fatalf("ToUniform of %v: got %d, %d, want %d", c, got, e, u)
			}
			if got, e := scale.ToCivil(u, l); got != c || e != api.OK {
				t.Fatalf("ToCivil of %d: got %v, %d, want %v", u, got, e, c)
			}
			c.Milli = 999
			if got, e := scale.ToCivil(u+999, l); got != c || e != api.OK {
				t.Fatalf("ToCivil of %d: got %v, %d, want %v", u+999, got, e, c)
			}
			u += 1000
		}
	}
	if want := api.Tick(6*86_400_000 + 1000); u != want {
		t.Errorf("the days end at %d, not %d", u, want)
	}
}

// P7.4, P7.5: ToUniform takes back ToCivil, for tables and times without structure and near the ends of days with leap seconds.
func TestThereAndBack(t *testing.T) {
	random := rand.New(rand.NewPCG(7, 5))
	for range 2000 {
		var l leaps
		days := random.Perm(400)[:random.IntN(65)]
		slices.Sort(days)
		for _, day := range days {
			l = append(l, api.Leap{Day: day - 200, Step: 2*random.IntN(2) - 1})
		}
		times := []api.Tick{api.Tick(random.Int64N(2*end+1) - end)}
		for _, leap := range l {
			times = append(times, api.Tick(leap.Day+1)*api.Day+api.Tick(random.IntN(140_000)-70_000))
		}
		for _, u := range times {
			c, e := scale.ToCivil(u, l)
			if e != api.OK || scale.Check(c) != api.OK {
				t.Fatalf("ToCivil(%d, %v): %v, %d", u, l, c, e)
			}
			if back, e := scale.ToUniform(c, l); back != u || e != api.OK {
				t.Fatalf("ToUniform(%v, %v): %d, %d, not %d", c, l, back, e, u)
			}
		}
	}
}
