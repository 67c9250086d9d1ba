package bound_test

import (
	"testing"

	"spyglass/api"
	"spyglass/bound"
)

// P2.1: valid bounds, each error, the limits, and the order of the errors.
func TestCheck(t *testing.T) {
	for _, c := range []struct {
		b fix
		e api.Errno
	}{
		{fix{}, api.OK},
		{none, api.OK},
		{fix{Lo: -3, Hi: 5}, api.OK},
		{fix{Lo: 5, Hi: 5}, api.OK},
		{fix{Lo: -top, Hi: top}, api.OK},
		{fix{Lo: -top, Hi: -top}, api.OK},
		{fix{Lo: top, Hi: top}, api.OK},
		{fix{Lo: 1, Unknown: true}, api.ErrForm},
		{fix{Hi: 1, Unknown: true}, api.ErrForm},
		{fix{Lo: 1, Hi: 1, Unknown: true}, api.ErrForm},
		{fix{Lo: most, Hi: least, Unknown: true}, api.ErrForm},
		{fix{Lo: -top - 1, Hi: 0}, api.ErrRange},
		{fix{Lo: -top - 1, Hi: -top - 1}, api.ErrRange},
		{fix{Lo: 0, Hi: top + 1}, api.ErrRange},
		{fix{Lo: top + 1, Hi: top + 1}, api.ErrRange},
		{fix{Lo: top + 1, Hi: 0}, api.ErrRange},
		{fix{Lo: 0, Hi: -top - 1}, api.ErrRange},
		{fix{Lo: least, Hi: 0}, api.ErrRange},
		{fix{Lo: 0, Hi: least}, api.ErrRange},
		{fix{Lo: most, Hi: least}, api.ErrRange},
		{fix{Lo: 1, Hi: 0}, api.ErrOrder},
		{fix{Lo: top, Hi: -top}, api.ErrOrder},
	} {
		if e := bound.Check(c.b); e != c.e {
			t.Errorf("Check(%v) is %d, not %d", c.b, e, c.e)
		}
		if valid := bound.Norm(c.b) == c.b; valid != (c.e == api.OK) {
			t.Errorf("Norm(%v) is %v", c.b, bound.Norm(c.b))
		}
	}
}

// P2.2: each function with valid and invalid ends, and with several types of numbers.
func TestMake(t *testing.T) {
	for i, c := range []struct{ got, want fix }{
		{bound.None[api.Fix](), none},
		{bound.Norm(none), none},
		{bound.Norm(fix{Lo: 2, Hi: 3}), fix{Lo: 2, Hi: 3}},
		{bound.Norm(fix{Lo: 3, Hi: 2}), none},
		{bound.Of[api.Fix](2, 3), fix{Lo: 2, Hi: 3}},
		{bound.Of[api.Fix](3, 3), fix{Lo: 3, Hi: 3}},
		{bound.Of[api.Fix](3, 2), none},
		{bound.Of(-top, top), fix{Lo: -top, Hi: top}},
		{bound.Of(-top-1, 0), none},
		{bound.Of(0, top+1), none},
		{bound.Of[api.Fix](least, most), none},
		{bound.Exact[api.Fix](0), fix{}},
		{bound.Exact[api.Fix](-4), fix{Lo: -4, Hi: -4}},
		{bound.Exact(top), fix{Lo: top, Hi: top}},
		{bound.Exact(-top), fix{Lo: -top, Hi: -top}},
		{bound.Exact(top + 1), none},
		{bound.Exact(-top - 1), none},
		{bound.Exact[api.Fix](least), none},
		{bound.As[api.Fix](bound.Of[api.Arc](-2, 3)), fix{Lo: -2, Hi: 3}},
		{bound.As[api.Fix](api.Bound[int64]{Lo: -api.MaxNum, Hi: api.MaxNum}), fix{Lo: -top, Hi: top}},
		{bound.As[api.Fix](bound.None[api.Tick]()), none},
		{bound.As[api.Fix](api.Bound[api.Tick]{Lo: 3, Hi: 2}), none},
		{bound.As[api.Fix](api.Bound[api.Tick]{Lo: 1, Hi: 1, Unknown: true}), none},
		{bound.As[api.Fix](api.Bound[api.Tick]{Hi: most}), none},
	} {
		if c.got != c.want {
			t.Errorf("case %d: got %v, want %v", i, c.got, c.want)
		}
	}
	if b := bound.As[api.Sub](fix{Lo: 2, Hi: 3}); b != (api.Bound[api.Sub]{Lo: 2, Hi: 3}) {
		t.Errorf("As[api.Sub]: %v", b)
	}
}

// P2.3: numbers inside, at the ends and outside of a bound, and numbers that are out of range.
func TestHas(t *testing.T) {
	for _, c := range []struct {
		b   fix
		v   api.Fix
		has bool
	}{
		{fix{Lo: 2, Hi: 5}, 1, false}, {fix{Lo: 2, Hi: 5}, 2, true}, {fix{Lo: 2, Hi: 5}, 3, true},
		{fix{Lo: 2, Hi: 5}, 5, true}, {fix{Lo: 2, Hi: 5}, 6, false}, {fix{}, 0, true}, {fix{}, 1, false},
		{fix{Lo: -top, Hi: top}, top, true}, {fix{Lo: -top, Hi: top}, top + 1, false}, {fix{Lo: -top, Hi: top}, least, false},
		{none, 99, true}, {none, 0, true}, {none, least, true}, {none, most, true},
	} {
		if has := bound.Has(c.b, c.v); has != c.has {
			t.Errorf("Has(%v, %d) is %v", c.b, c.v, has)
		}
	}
	for _, b := range invalid() {
		for _, v := range []api.Fix{least, -1, 0, 9, most} {
			if !bound.Has(b, v) {
				t.Errorf("Has(%v, %d) is false", b, v)
			}
		}
	}
}

// P2.3: all pairs of small bounds, and the unknown one on either side.
func TestInsideCmp(t *testing.T) {
	for _, a := range small() {
		for _, b := range small() {
			inside, order := true, 0
			switch {
			case b.Unknown:
			case a.Unknown:
				inside = false
			default:
				below, above := true, true
				for _, x := range numbers(a) {
					inside = inside && bound.Has(b, x)
					for _, y := range numbers(b) {
						below, above = below && x < y, above && x > y
					}
				}
				if below {
					order = -1
				} else if above {
					order = 1
				}
			}
			if got := bound.Inside(a, b); got != inside {
				t.Errorf("Inside(%v, %v) is %v", a, b, got)
			}
			if got := bound.Cmp(a, b); got != order {
				t.Errorf("Cmp(%v, %v) is %d, not %d", a, b, got, order)
			}
		}
	}
}

// P2.3: widths from 0 to the greatest one, and of bounds that say nothing.
func TestWidth(t *testing.T) {
	for _, c := range []struct {
		b  fix
		n  api.Fix
		ok bool
	}{
		{fix{}, 0, true}, {fix{Lo: 2, Hi: 5}, 3, true}, {fix{Lo: -2, Hi: 5}, 7, true}, {fix{Lo: top, Hi: top}, 0, true},
		{fix{Lo: -top, Hi: top}, 2 * top, true}, {none, 0, false},
	} {
		if n, ok := bound.Width(c.b); n != c.n || ok != c.ok {
			t.Errorf("Width(%v): got %d, %v, want %d, %v", c.b, n, ok, c.n, c.ok)
		}
	}
	for _, b := range invalid() {
		if n, ok := bound.Width(b); n != 0 || ok {
			t.Errorf("Width(%v): got %d, %v", b, n, ok)
		}
	}
}
