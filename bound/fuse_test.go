package bound_test

import (
	"testing"

	"spyglass/api"
	"spyglass/bound"
)

// P2.9: the list of the example with an unknown and an invalid bound, at the ends and outside.
func TestVotes(t *testing.T) {
	list := []fix{{Lo: 8, Hi: 12}, none, {Lo: 11, Hi: 13}, {Lo: 14, Hi: 15}, {Lo: 3, Hi: 2}, {Hi: top + 1}}
	for v, want := range map[api.Fix]int{
		7: 0, 8: 1, 10: 1, 11: 2, 12: 2, 13: 1, 14: 1, 15: 1, 16: 0, 0: 0, 2: 0, 3: 0, least: 0, most: 0,
	} {
		if n := bound.Votes(list, v); n != want {
			t.Errorf("Votes for %d: %d, not %d", v, n, want)
		}
	}
	if n := bound.Votes[api.Fix](nil, 0) + bound.Votes([]fix{}, 0) + bound.Votes([]fix{none, none}, 0); n != 0 {
		t.Errorf("%d votes of no known bounds", n)
	}
	if n := bound.Votes([]fix{{}, {}, {}}, 0); n != 3 {
		t.Errorf("%d votes of three equal bounds", n)
	}
}

// P2.9: hand-written results, and each reason for an unknown one.
func TestFuse(t *testing.T) {
	list := []fix{{Lo: 8, Hi: 12}, none, {Lo: 11, Hi: 13}, {Lo: 14, Hi: 15}, {Lo: 3, Hi: 2}}
	groups := []fix{{Lo: 1, Hi: 3}, {Lo: 2, Hi: 4}, {Lo: 8, Hi: 9}, {Lo: 9, Hi: 12}}
	for i, c := range []struct {
		list []fix
		f    int
		want fix
	}{
		{list, 1, fix{Lo: 11, Hi: 12}},
		{list, 0, none},
		{list, 2, fix{Lo: 8, Hi: 15}},
		{list, 3, none},
		{list, 4, none},
		{list, most, none},
		{list, -1, none},
		{list, least, none},
		{groups, 0, none},
		{groups, 1, none},
		{groups, 2, fix{Lo: 2, Hi: 9}},
		{groups, 3, fix{Lo: 1, Hi: 12}},
		{groups, 4, none},
		{groups[:2], 0, fix{Lo: 2, Hi: 3}},
		{nil, 0, none},
		{nil, 1, none},
		{[]fix{none, none}, 0, none},
		{[]fix{none, none}, 1, none},
		{[]fix{{Lo: 4, Hi: 4}}, 0, fix{Lo: 4, Hi: 4}},
		{[]fix{{Lo: 4, Hi: 4}, none}, 0, fix{Lo: 4, Hi: 4}},
		{[]fix{{Lo: 4, Hi: 4}, none}, 1, none},
		{[]fix{{Lo: 1, Hi: 2}, {Lo: 2, Hi: 3}}, 0, fix{Lo: 2, Hi: 2}},
		{[]fix{{Lo: 1, Hi: 2}, {Lo: 3, Hi: 4}}, 0, none},
		{[]fix{{Lo: -top, Hi: -top}, {Lo: top, Hi: top}}, 1, fix{Lo: -top, Hi: top}},
		{[]fix{{Lo: -top, Hi: top}, {Lo: -top, Hi: top}}, 0, fix{Lo: -top, Hi: top}},
	} {
		if got := bound.Fuse(c.list, c.f); got != c.want {
			t.Errorf("case %d: got %v, want %v", i, got, c.want)
		}
	}
}

// lists calls f with lists of up to 4 bounds that are known, unknown or invalid, in all orders.
func lists(f func(list []fix)) {
	choice := append(bounds(-2, -1, 0, 1), fix{Lo: 1, Hi: -1})
	var grow func(list []fix)
	grow = func(list []fix) {
		f(list)
		for i := 0; i < len(choice) && len(list) < 4; i++ {
			grow(append(list[:len(list):len(list)], choice[i]))
		}
	}
	grow(nil)
}

// P2.9, P2.10: comparison with the votes for each number; what at most f known bounds do not admit is in the result.
func TestFuseExact(t *testing.T) {
	lists(func(list []fix) {
		n, votes := 0, map[api.Fix]int{}
		for _, b := range list {
			if !b.Unknown && b.Lo <= b.Hi {
				n++
				for _, v := range numbers(b) {
					votes[v]++
				}
			}
		}
		for v := api.Fix(-3); v <= 2; v++ {
			if got := bound.Votes(list, v); got != votes[v] {
				t.Fatalf("Votes(%v, %d) is %d, not %d", list, v, got, votes[v])
			}
		}
		for f := -1; f <= n+1; f++ {
			var enough []api.Fix
			for v, count := range votes {
				if f >= 0 && n > f && count >= n-f {
					enough = append(enough, v)
				}
			}
			want := none
			if len(enough) > 0 {
				want = around(enough)
			}
			got := bound.Fuse(list, f)
			if got != want {
				t.Fatalf("Fuse(%v, %d) is %v, not %v", list, f, got, want)
			}
		}
	})
}

// P2.9: a long list, in which all numbers but one group are outvoted.
func TestFuseLong(t *testing.T) {
	var list []fix
	for i := api.Fix(0); i < 1000; i++ {
		list = append(list, fix{Lo: i * 7 % 1000, Hi: 1000 + i*7%1000}, none)
	}
	// The lower ends are 0 to 999 and the upper ones 1000 to 1999, each once.
	for _, f := range []int{0, 1, 10, 999} {
		want := fix{Lo: 999 - api.Fix(f), Hi: 1000 + api.Fix(f)}
		if got := bound.Fuse(list, f); got != want {
			t.Errorf("f = %d: got %v, want %v", f, got, want)
		}
	}
}
