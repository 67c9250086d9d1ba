package window_test

import (
	"reflect"
	"slices"
	"testing"

	"spyglass/api"
	"spyglass/window"
)

// outcome is all that the functions of the package return for some arguments.
type outcome struct {
	when                            ticks
	dark                            []bool
	why                             int
	slots                           []int
	spans                           []span
	fits                            bool
	whyErr, slotsErr, ofErr, fitErr api.Errno
}

// all calls every function of the package.
func all(n night, r request, from, to int) (o outcome) {
	o.when, o.dark = window.When(n, from, to), window.Dark(n)
	o.why, o.whyErr = window.Why(n, r, from)
	o.slots, o.slotsErr = window.Slots(n, r)
	o.spans, o.ofErr = window.Of(n, r)
	o.fits, o.fitErr = window.Fits(n, r, from)
	return o
}

// fault returns what is wrong with an outcome, whatever the arguments are.
func (o outcome) fault(n night, r request) string {
	switch {
	case o.when.Unknown && o.when != (ticks{Unknown: true}) || o.when.Lo > o.when.Hi:
		return "When"
	case o.slotsErr != o.ofErr || o.slotsErr != o.fitErr || (o.slotsErr == api.OK) != isValid(n, r) || o.slotsErr != api.OK && o.whyErr != o.slotsErr:
		return "an error"
	case o.slotsErr == api.OK && (len(o.slots) != n.Slots || len(o.dark) != n.Slots):
		return "Slots or Dark"
	case o.slotsErr != api.OK && (len(o.slots)+len(o.spans) > 0 || o.fits) || o.whyErr != api.OK && o.why != 0:
		return "a result beside an error"
	case len(o.spans) > 0 != slices.Contains(o.slots, window.Open):
		return "Of"
	}
	return ""
}

// anything returns a night and a request that have figures in all their fields.
func anything(figures []int64, i, j, k int) (night, request) {
	pick := func(n int) int64 { return figures[(i+n*j+n*n*k)%len(figures)] }
	return night{
		Site: api.Site{Lat: api.Arc(pick(0)), Lon: api.Arc(pick(1))}, Spin: api.Rate{At: api.Tick(pick(2)), Angle: api.Arc(pick(3)), Arcs: api.Frac{Num: pick(4), Den: pick(5)}},
		Begin: api.Tick(pick(6)), Long: api.Tick(pick(7)), Slots: int(pick(8)), Sun: at(pick(9), pick(10), pick(11)), Moon: at(pick(12), pick(13), pick(14)), Dusk: api.Fix(pick(15)), Cloud: make([]int, i*7%70),
	}, request{
		ID: int(pick(16)), Proposal: int(pick(17)), At: at(pick(18), pick(19), pick(20)), Len: int(pick(21)), Visits: int(pick(22)), Least: int(pick(23)), Most: int(pick(24)), Height: api.Fix(pick(25)), Moon: api.Fix(pick(26)), Cloud: int(pick(27)), Weight: int(pick(28)),
	}
}

// Z1, Z2, Z3: no arguments make a function panic, results depend on the arguments alone, are valid, and are zero values beside an error.
func TestAnyArguments(t *testing.T) {
	figures := []int64{least, least + 1, -end, -one - 1, -rim - 1, -1, 0, 1, 2, 4, 5, 8, 50, 64, 101, 60_000, 999_999, rim, rim + 1, one, turn - 1, end / 2, most - 1, most}
	for i, a := range figures {
		for j, b := range figures {
			for k := range figures[:12] {
				n, r := anything(figures, i, j, k)
				switch k % 4 {
				case 1:
					n = evening()
				case 2:
					r = wish()
				case 3:
					n, r = drawn(uint64(i*1000+j*100+k) << 10)
				}
				o := all(n, r, int(a), int(b))
				if fault := o.fault(n, r); fault != "" {
					t.Fatalf("%v, %v, %d, %d: %s is wrong: %v", n, r, a, b, fault, o)
				}
				if !reflect.DeepEqual(o, all(n, r, int(a), int(b))) {
					t.Fatalf("%v, %v, %d, %d: two results", n, r, a, b)
				}
			}
		}
	}
}

// Z2: nights are left as they are, also behind the length of their clouds.
func TestUnchanged(t *testing.T) {
	n, m := evening(), evening()
	n.Cloud, m.Cloud = []int{0, 4, 2, 9, -1}, []int{0, 4, 2, 9, -1}
	for k := range 6 {
		part := n
		part.Cloud, part.Slots = n.Cloud[:k], k
		if o := all(part, wish(), 0, k); (o.slotsErr == api.OK) != (1 <= k && k <= 3) || !reflect.DeepEqual(n, m) {
			t.Fatalf("%v: got %v", n, o)
		}
	}
}

// Z2: results share no memory, also behind their length, with later ones.
func TestNewMemory(t *testing.T) {
	n, r := clouded(0, 1, 0, 0, 1, 0)
	results := func() outcome { return all(n, r, 0, 1) }
	first, untouched := results(), results()
	for i := range first.slots[:cap(first.slots)] {
		first.slots[:cap(first.slots)][i] = 99
	}
	for i := range first.dark[:cap(first.dark)] {
		first.dark[:cap(first.dark)][i] = false
	}
	for i := range first.spans[:cap(first.spans)] {
		first.spans[:cap(first.spans)][i] = span{From: 98, To: 99}
	}
	if o := results(); !reflect.DeepEqual(o, untouched) || len(o.spans) != 3 {
		t.Errorf("the results are %v, not %v", o, untouched)
	}
}

// Z4: nil and empty lists are the same.
func TestEmpty(t *testing.T) {
	n, m := evening(), evening()
	n.Cloud, m.Cloud = nil, []int{}
	a, b := all(n, wish(), 0, 1), all(m, wish(), 0, 1)
	if !reflect.DeepEqual(a, b) || a.slotsErr != api.ErrForm {
		t.Errorf("empty lists have other results than nil: %v, %v", a, b)
	}
}
