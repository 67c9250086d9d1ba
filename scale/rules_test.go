package scale_test

import (
	"slices"
	"testing"

	"spyglass/api"
	"spyglass/bound"
	"spyglass/scale"
)

// outcome is all that the functions of the package return for some arguments.
type outcome struct {
	days                                            int
	date                                            [3]int
	daysErr, dateErr, leapsErr, checked             api.Errno
	uniform, when                                   api.Tick
	civil, read                                     scale.Civil
	text                                            string
	uniformErr, civilErr, textErr, readErr, rateErr api.Errno
	whenErr                                         api.Errno
	sidereal                                        arcs
	angle                                           api.Arc
}

// all calls every function of the package.
func all(x, y, z int, l leaps, r api.Rate, s string) (o outcome) {
	c := at(2000+x%3, 1+y%3, 1+z%3, z, x, y, z)
	o.days, o.daysErr = scale.Days(x, y, z)
	o.date[0], o.date[1], o.date[2], o.dateErr = scale.Date(x)
	o.leapsErr, o.checked, o.rateErr = scale.CheckLeaps(l), scale.Check(c), scale.CheckRate(r)
	o.uniform, o.uniformErr = scale.ToUniform(c, l)
	o.civil, o.civilErr = scale.ToCivil(api.Tick(x), l)
	o.text, o.textErr = scale.Text(c)
	o.read, o.readErr = scale.Read(s)
	o.sidereal = scale.Sidereal(r, ticks{Lo: api.Tick(x), Hi: api.Tick(y), Unknown: z == 0})
	o.angle = scale.Angle(r, api.Tick(y))
	o.when, o.whenErr = scale.When(r, api.Tick(x), api.Arc(y))
	return o
}

// fault returns what is wrong with an outcome whatever the arguments are.
func (o outcome) fault() string {
	switch {
	case o.daysErr != api.OK && o.days != 0:
		return "Days"
	case o.dateErr != api.OK && o.date != [3]int{}:
		return "Date"
	case o.uniformErr != api.OK && o.uniform != 0 || o.uniform < -end || o.uniform > end:
		return "ToUniform"
	case (o.civilErr == api.OK) != (scale.Check(o.civil) == api.OK) || o.civilErr != api.OK && o.civil != scale.Civil{}:
		return "ToCivil"
	case (o.textErr == api.OK) != (len(o.text) == 23) || o.textErr != api.OK && o.text != "":
		return "Text"
	case (o.readErr == api.OK) != (scale.Check(o.read) == api.OK) || o.readErr != api.OK && o.read != scale.Civil{}:
		return "Read"
	case bound.Check(o.sidereal) != api.OK:
		return "Sidereal"
	case o.angle < 0 || o.angle >= turn:
		return "Angle"
	case o.whenErr != api.OK && o.when != 0 || o.when < -end || o.when > end:
		return "When"
	}
	return ""
}

// Z1, Z2, Z3: no arguments make a function panic, results depend on the arguments alone, are in their range, and are zero values beside an error.
func TestAnyArguments(t *testing.T) {
	figures := []int{least, least + 1, -top, -end - 1, -end, -730120, -730119, -60, -1, 0, 1, 12, 31, 59, 60, 9999, 10000, 2921939, 2921940, turn - 1, turn, end, end + 1, top, top + 1, most - 1, most}
	tables := []leaps{nil, {{Day: 0, Step: 1}}, {{Day: -1, Step: -1}, {Day: 365, Step: 1}}, {{Day: most, Step: least}}, successive(64, -200_000, 1), successive(65, 0, 1)}
	texts := []string{"", "\x00", "2000-01-01T00:00:00.000", "9999-99-99T99:99:99.999", "2000-01-01T23:59:60.999", "\xff\xfe2000-01-01T00:00:00.0", "99999999999999999999999"}
	rates := append(validRates(), rate(least, most, least, most), rate(0, 0, -1, 1), rate(0, 0, 1, 0), api.Rate{})
	for i, x := range figures {
		for j, y := range figures {
			for k, z := range figures {
				l, r, s := tables[(i+j)%len(tables)], rates[(i+j+k)%len(rates)], texts[(i+k)%len(texts)]
				o := all(x, y, z, l, r, s)
				if fault := o.fault(); fault != "" {
					t.Fatalf("%d, %d, %d, %v, %v, %q: %s is wrong: %v", x, y, z, l, r, s, fault, o)
				}
				if o != all(x, y, z, l, r, s) {
					t.Fatalf("%d, %d, %d, %v, %v, %q: two results", x, y, z, l, r, s)
				}
			}
		}
	}
}

// Z2: tables are left as they are, also behind their length.
func TestLeapsUnchanged(t *testing.T) {
	memory := leaps{{Day: -1, Step: 1}, {Day: 365, Step: 1}, {Day: 400, Step: -1}, {Day: 7, Step: 9}, {Day: 500, Step: 1}}
	before := slices.Clone(memory)
	l := memory[:3]
	scale.CheckLeaps(l)
	if c, e := scale.ToCivil(34_646_400_000, l); c != at(2001, 2, 4, 23, 59, 58, 0) || e != api.OK {
		t.Errorf("ToCivil: %v, %d", c, e)
	}
	if u, e := scale.ToUniform(at(2001, 2, 4, 23, 59, 58, 0), l); u != 34_646_400_000 || e != api.OK {
		t.Errorf("ToUniform: %d, %d", u, e)
	}
	if !slices.Equal(memory, before) {
		t.Errorf("the table is changed: %v", memory)
	}
}

// Z4: nil and empty tables are the same.
func TestEmptyLeaps(t *testing.T) {
	a, e := scale.ToCivil(5, leaps{})
	b, f := scale.ToCivil(5, nil)
	c, g := scale.ToUniform(a, leaps{})
	d, h := scale.ToUniform(b, nil)
	if a != b || c != d || e != f || g != h || scale.CheckLeaps(leaps{}) != scale.CheckLeaps(nil) {
		t.Error("empty tables have other results than nil")
	}
}
