package horizon_test

import (
	"slices"
	"testing"

	"spyglass/api"
	"spyglass/bound"
	"spyglass/horizon"
)

// bend returns an entry of a table of refraction.
func bend(alt, lo, hi api.Arc) horizon.Bend {
	return horizon.Bend{Alt: alt, Lift: arcs{Lo: lo, Hi: hi}}
}

// table returns a valid table of n entries, with some lifts that are unknown.
func table(n int) []horizon.Bend {
	var l []horizon.Bend
	for i := range n {
		b := bend(api.Arc(i*i-n), api.Arc(around(uint64(i), 9)), api.Arc(10+chance(uint64(i+n), 9)))
		if i%7 == 5 {
			b.Lift = noArc
		}
		l = append(l, b)
	}
	return l
}

// P10.6: valid tables, up to the limits.
func TestCheckBends(t *testing.T) {
	for i, l := range [][]horizon.Bend{
		nil, {}, {{}}, {bend(-quarter, 1, 2), bend(quarter, 1, 1)}, {bend(5, -top, top), bend(6, -5, -3), {Alt: 7, Lift: noArc}, {Alt: 8, Lift: noArc}}, table(9), table(63), table(64),
	} {
		if e := horizon.CheckBends(l); e != api.OK {
			t.Errorf("case %d: %d", i, e)
		}
	}
}

// faultyTable is a table that is not valid, with its error.
type faultyTable struct {
	l    []horizon.Bend
	want api.Errno
}

// faultyTables returns tables with each error, also with several ones, at one entry and at different ones.
func faultyTables() []faultyTable {
	good, beyond := bend(0, 1, 2), bend(quarter+1, 1, 2)
	list := []faultyTable{
		{table(65), api.ErrLarge}, {append(table(64), beyond), api.ErrLarge}, {make([]horizon.Bend, 65), api.ErrLarge}, {append([]horizon.Bend{beyond}, table(64)...), api.ErrLarge},
		{[]horizon.Bend{beyond}, api.ErrRange}, {[]horizon.Bend{bend(-quarter-1, 1, 2)}, api.ErrRange}, {[]horizon.Bend{bend(most, 1, 2)}, api.ErrRange}, {[]horizon.Bend{bend(least, 1, 2)}, api.ErrRange}, {[]horizon.Bend{good, beyond}, api.ErrRange},
		{[]horizon.Bend{bend(0, 2, 1)}, api.ErrOrder}, {[]horizon.Bend{bend(0, 0, top+1)}, api.ErrRange}, {[]horizon.Bend{bend(0, -top-1, 0)}, api.ErrRange}, {[]horizon.Bend{bend(0, most, least)}, api.ErrRange}, {[]horizon.Bend{{Lift: arcs{Lo: 1, Unknown: true}}}, api.ErrForm}, {[]horizon.Bend{{Lift: arcs{Hi: top + 1, Unknown: true}}}, api.ErrForm}, {[]horizon.Bend{good, bend(1, 2, 1)}, api.ErrOrder},
		{[]horizon.Bend{good, good}, api.ErrOrder}, {[]horizon.Bend{good, bend(-1, 1, 2)}, api.ErrOrder}, {[]horizon.Bend{bend(quarter, 1, 2), bend(-quarter, 1, 2)}, api.ErrOrder}, {append(table(63), bend(0, 1, 2)), api.ErrOrder},
		// Several errors of one entry: first the altitude, then the lift, then the order.
		{[]horizon.Bend{bend(quarter+1, 2, 1)}, api.ErrRange}, {[]horizon.Bend{{Alt: quarter + 1, Lift: arcs{Lo: 1, Unknown: true}}}, api.ErrRange}, {[]horizon.Bend{good, bend(-quarter-1, 1, 2)}, api.ErrRange}, {[]horizon.Bend{good, {Alt: -5, Lift: arcs{Lo: 1, Unknown: true}}}, api.ErrForm}, {[]horizon.Bend{good, bend(-5, 0, top+1)}, api.ErrRange},
		// The first entry with an error counts.
		{[]horizon.Bend{good, good, beyond}, api.ErrOrder}, {[]horizon.Bend{{Lift: arcs{Lo: 1, Unknown: true}}, beyond}, api.ErrForm}, {[]horizon.Bend{good, bend(9, 2, 1), beyond}, api.ErrOrder}, {[]horizon.Bend{beyond, {Lift: arcs{Lo: 1, Unknown: true}}}, api.ErrRange},
	}
	return list
}

// P10.6, P10.7: each error; nothing is known by a table that is not valid, also where its other entries would tell.
func TestFaultyTables(t *testing.T) {
	for i, c := range faultyTables() {
		if e := horizon.CheckBends(c.l); e != c.want {
			t.Errorf("case %d: %d, not %d", i, e, c.want)
		}
		for _, alt := range []api.Arc{0, c.l[0].Alt} {
			if b := horizon.Refract(c.l, exactly(alt)); b != noArc {
				t.Errorf("case %d: Refract of %d is %v", i, alt, b)
			}
		}
	}
}

// P10.7: altitudes at entries, between them and around them.
func TestRefract(t *testing.T) {
	l := []horizon.Bend{bend(-50, -7, -5), bend(0, 10, 12), bend(100, 4, 6), bend(200, 2, 2), {Alt: 300, Lift: noArc}, bend(400, 1, 3)}
	for i, c := range []struct{ alt, want arcs }{
		{exactly(-50), arcs{Lo: -57, Hi: -55}}, {exactly(-49), arcs{Lo: -56, Hi: -37}}, {exactly(-1), arcs{Lo: -8, Hi: 11}}, {exactly(0), arcs{Lo: 10, Hi: 12}}, {exactly(1), arcs{Lo: 5, Hi: 13}}, {exactly(99), arcs{Lo: 103, Hi: 111}}, {exactly(100), arcs{Lo: 104, Hi: 106}}, {exactly(150), arcs{Lo: 152, Hi: 156}}, {exactly(200), arcs{Lo: 202, Hi: 202}}, {exactly(400), arcs{Lo: 401, Hi: 403}},
		{arcs{Lo: 0, Hi: 100}, arcs{Lo: 4, Hi: 112}}, {arcs{Lo: 1, Hi: 2}, arcs{Lo: 5, Hi: 14}}, {arcs{Lo: 0, Hi: 101}, arcs{Lo: 2, Hi: 113}}, {arcs{Lo: -1, Hi: 100}, arcs{Lo: -8, Hi: 112}}, {arcs{Lo: -50, Hi: 200}, arcs{Lo: -57, Hi: 212}}, {arcs{Lo: 100, Hi: 200}, arcs{Lo: 102, Hi: 206}}, {arcs{Lo: 99, Hi: 101}, arcs{Lo: 101, Hi: 113}},
		// An unknown lift among those of the entries.
		{exactly(300), noArc}, {exactly(201), noArc}, {exactly(301), noArc}, {arcs{Lo: 200, Hi: 400}, noArc}, {arcs{Lo: 0, Hi: 201}, noArc}, {arcs{Lo: 399, Hi: 400}, noArc},
		// No entry below, or none above.
		{exactly(-51), noArc}, {exactly(401), noArc}, {arcs{Lo: -51, Hi: 0}, noArc}, {arcs{Lo: 400, Hi: 401}, noArc}, {arcs{Lo: -top, Hi: top}, noArc}, {exactly(quarter), noArc},
	} {
		if b := horizon.Refract(l, c.alt); b != c.want {
			t.Errorf("case %d: Refract of %v is %v, not %v", i, c.alt, b, c.want)
		}
	}
	for _, alt := range invalid() {
		if b := horizon.Refract(l, alt); b != noArc {
			t.Errorf("Refract of %v is %v", alt, b)
		}
	}
}

// P10.7: tables of one entry and of none, altitudes at the limits, and sums beyond them.
func TestRefractLimits(t *testing.T) {
	ends := []horizon.Bend{bend(-quarter, 1, 2), bend(quarter, -5, 3)}
	for i, c := range []struct {
		l         []horizon.Bend
		alt, want arcs
	}{
		{nil, exactly(0), noArc}, {[]horizon.Bend{bend(7, 1, 2)}, exactly(7), arcs{Lo: 8, Hi: 9}}, {[]horizon.Bend{bend(7, 1, 2)}, exactly(6), noArc}, {[]horizon.Bend{bend(7, 1, 2)}, exactly(8), noArc}, {[]horizon.Bend{bend(7, 1, 2)}, arcs{Lo: 7, Hi: 8}, noArc}, {[]horizon.Bend{{Alt: 7, Lift: noArc}}, exactly(7), noArc},
		{ends, exactly(-quarter), arcs{Lo: 1 - quarter, Hi: 2 - quarter}}, {ends, exactly(quarter), arcs{Lo: quarter - 5, Hi: quarter + 3}}, {ends, exactly(0), arcs{Lo: -5, Hi: 3}}, {ends, arcs{Lo: -quarter, Hi: quarter}, arcs{Lo: -quarter - 5, Hi: quarter + 3}}, {ends, exactly(-quarter - 1), noArc}, {ends, exactly(quarter + 1), noArc},
		{[]horizon.Bend{bend(7, 1, top-7)}, exactly(7), arcs{Lo: 8, Hi: top}}, {[]horizon.Bend{bend(7, 1, top-6)}, exactly(7), noArc}, {[]horizon.Bend{bend(-7, 7-top, 0)}, exactly(-7), arcs{Lo: -top, Hi: -7}}, {[]horizon.Bend{bend(-7, 6-top, 0)}, exactly(-7), noArc},
		{[]horizon.Bend{bend(0, -top, top), bend(5, 1, 2)}, exactly(1), noArc}, {[]horizon.Bend{bend(0, -top, top), bend(5, 1, 2)}, exactly(5), arcs{Lo: 6, Hi: 7}}, {[]horizon.Bend{bend(0, -top, top), bend(5, 1, 2)}, exactly(0), arcs{Lo: -top, Hi: top}},
	} {
		if b := horizon.Refract(c.l, c.alt); b != c.want {
			t.Errorf("case %d: Refract(%v, %v) is %v, not %v", i, c.l, c.alt, b, c.want)
		}
	}
}

// refracted returns the result of P10.7 for a valid table and a known altitude.
func refracted(l []horizon.Bend, alt arcs) arcs {
	i, k := -1, -1
	for j, b := range slices.Backward(l) {
		if b.Alt <= alt.Lo && i < 0 {
			i = j
		}
		if b.Alt >= alt.Hi {
			k = j
		}
	}
	if i < 0 || k < 0 {
		return noArc
	}
	want := arcs{Lo: most, Hi: least}
	for j := i; j <= k; j++ {
		if l[j].Lift.Unknown {
			return noArc
		}
		want = arcs{Lo: min(want.Lo, alt.Lo+l[j].Lift.Lo), Hi: max(want.Hi, alt.Hi+l[j].Lift.Hi)}
	}
	return want
}

// P10.7: the result is that of the rule, and isotone, for all short bounds of altitudes about the entries.
func TestRefractByRule(t *testing.T) {
	for _, n := range []int{1, 2, 3, 5, 6, 9, 64} {
		l := table(n)
		low, high := l[0].Alt-2, min(l[n-1].Alt+2, 90)
		for lo := low; lo <= high; lo++ {
			for hi := lo; hi <= min(high, lo+40); hi++ {
				alt := arcs{Lo: lo, Hi: hi}
				got := horizon.Refract(l, alt)
				if want := refracted(l, alt); got != want {
					t.Fatalf("Refract(%v, %v) is %v, not %v", l, alt, got, want)
				}
				for _, narrow := range []arcs{{Lo: lo, Hi: max(lo, hi-1)}, {Lo: min(hi, lo+1), Hi: hi}} {
					if b := horizon.Refract(l, narrow); !bound.Inside(b, got) {
						t.Fatalf("Refract(%v, %v) is %v, not inside %v of %v", l, narrow, b, got, alt)
					}
				}
			}
		}
		for i, b := range l {
			alt := arcs{Lo: b.Alt, Hi: l[min(n-1, i+9)].Alt}
			if got, want := horizon.Refract(l, alt), refracted(l, alt); got != want {
				t.Fatalf("Refract(%v, %v) is %v, not %v", l, alt, got, want)
			}
		}
	}
}
