package clock_test

import (
	"testing"

	"spyglass/api"
	"spyglass/bound"
	"spyglass/clock"
)

// exchange is a clock, what it showed, what it was told, and what becomes of it.
type exchange struct {
	c         clock.Clock
	sent, got api.Tick
	told      ticks
	want      clock.Clock
	e         api.Errno
}

// check tests an exchange.
func (x exchange) check(t *testing.T) {
	t.Helper()
	if c, e := clock.Sync(x.c, x.sent, x.got, x.told); c != x.want || e != x.e {
		t.Errorf("Sync(%v, %d, %d, %v): got %v, %d, want %v, %d", x.c, x.sent, x.got, x.told, c, e, x.want, x.e)
	}
}

// P8.4: hand-written results: where the clock, where the answer and where both say something.
func TestSync(t *testing.T) {
	c, unset := set(1000, 5000, 5010, 100_000), clock.Clock{At: none}
	for _, x := range []exchange{
		// The clock alone says 5017 to 5034; the answer may have taken up to 24 ticks.
		{c, 1000, 1020, ticks{Lo: 5020, Hi: 5021}, set(1020, 5020, 5034, 100_000), 0}, {c, 1000, 1020, none, set(1020, 5017, 5034, 100_000), 0},
		{c, 1000, 1020, ticks{Lo: 5009, Hi: 5009}, set(1020, 5017, 5033, 100_000), 0}, {c, 1000, 1020, ticks{Lo: 5000, Hi: 5010}, set(1020, 5017, 5034, 100_000), 0}, {c, 1000, 1020, ticks{Lo: -9, Hi: 4993}, set(1020, 5017, 5017, 100_000), 0}, {c, 1000, 1020, ticks{Lo: 5034, Hi: 9000}, set(1020, 5034, 5034, 100_000), 0},
		// An answer that came sooner tells more: 2 ticks for 1, 3 for 2.
		{c, 1020, 1020, ticks{Lo: 5020, Hi: 5021}, set(1020, 5020, 5023, 100_000), 0}, {c, 1019, 1020, ticks{Lo: 5020, Hi: 5021}, set(1020, 5020, 5024, 100_000), 0}, {c, 1012, 1020, ticks{Lo: 5020, Hi: 5021}, set(1020, 5020, 5031, 100_000), 0}, {c, 1011, 1020, ticks{Lo: 5020, Hi: 5021}, set(1020, 5020, 5033, 100_000), 0},
		{c, 1000, 1000, ticks{Lo: 5004, Hi: 5005}, set(1000, 5004, 5007, 100_000), 0}, {c, 1000, 1000, none, set(1000, 5000, 5012, 100_000), 0},
		// Answers that are not valid bounds say nothing.
		{c, 1000, 1020, ticks{Lo: 5021, Hi: 5020}, set(1020, 5017, 5034, 100_000), 0}, {c, 1000, 1020, ticks{Lo: 5021, Unknown: true}, set(1020, 5017, 5034, 100_000), 0}, {c, 1000, 1020, ticks{Lo: least, Hi: most}, set(1020, 5017, 5034, 100_000), 0}, {c, 1000, 1020, ticks{Lo: top + 1, Hi: top + 1}, set(1020, 5017, 5034, 100_000), 0},
		// An answer so late that the sum is not valid says nothing either.
		{c, 1000, 1020, ticks{Lo: 5020, Hi: top}, set(1020, 5017, 5034, 100_000), 0}, {c, 1000, 1020, ticks{Lo: 5020, Hi: top - 24}, set(1020, 5020, 5034, 100_000), 0}, {c, 1000, 1020, ticks{Lo: top, Hi: top}, set(1020, 5017, 5034, 100_000), 0},
		// Nothing was known of the clock.
		{unset, 0, 5, ticks{Lo: 70, Hi: 71}, set(5, 70, 77, 0), 0}, {clock.Clock{At: none, Drift: 100_000}, 0, 5, ticks{Lo: 70, Hi: 71}, set(5, 70, 78, 100_000), 0}, {unset, 0, 5, none, clock.Clock{Set: 5, At: none}, 0}, {unset, 0, 5, ticks{Lo: 2, Hi: 1}, clock.Clock{Set: 5, At: none}, 0}, {clock.Clock{Set: -9, At: none, Drift: 3}, -9, -9, ticks{Lo: 1, Hi: 1}, set(-9, 1, 3, 3), 0},
	} {
		x.check(t)
	}
}

// P8.4: each error, the limits, and the order of the errors.
func TestSyncErrors(t *testing.T) {
	c, unset, nothing := set(1000, 5000, 5010, 100_000), clock.Clock{At: none}, clock.Clock{}
	for _, x := range []exchange{
		{c, end + 1, end, none, nothing, api.ErrRange}, {c, 1000, end + 1, none, nothing, api.ErrRange}, {c, -end - 1, 1020, none, nothing, api.ErrRange}, {c, 1000, -end - 1, none, nothing, api.ErrRange}, {c, least, most, none, nothing, api.ErrRange}, {c, most, least, none, nothing, api.ErrRange},
		{c, 999, 1020, none, nothing, api.ErrOrder}, {c, 999, 999, none, nothing, api.ErrOrder}, {c, 1000, 999, none, nothing, api.ErrOrder}, {c, 1010, 1009, none, nothing, api.ErrOrder}, {c, -end, -end, none, nothing, api.ErrOrder}, {unset, -1, 5, none, nothing, api.ErrOrder}, {unset, 6, 5, none, nothing, api.ErrOrder},
		{c, 1000, 1020, ticks{Lo: 5040, Hi: 5041}, nothing, api.ErrClash}, {c, 1000, 1020, ticks{Lo: 5035, Hi: 5035}, nothing, api.ErrClash}, {c, 1000, 1020, ticks{Lo: 4000, Hi: 4992}, nothing, api.ErrClash},
		// ErrOrder comes before ErrClash, and ErrClash before an error of the result.
		{c, 999, 1020, ticks{Lo: 5040, Hi: 5041}, nothing, api.ErrOrder}, {set(0, end, end, 0), 0, 10, ticks{Lo: end + 12, Hi: end + 12}, nothing, api.ErrClash},
		// The result is not in time.
		{set(0, end, end, 0), 0, 10, none, nothing, api.ErrRange}, {set(0, end, end, 0), 0, 0, none, nothing, api.ErrRange}, {set(0, end-1, end-1, 0), 0, 0, none, set(0, end-1, end, 0), 0}, {set(0, end-1, end-1, 0), 0, 1, none, nothing, api.ErrRange},
		{set(0, end, end, 0), 0, 0, ticks{Lo: end - 1, Hi: end - 1}, set(0, end, end, 0), 0}, {unset, 0, 0, ticks{Lo: end, Hi: end}, nothing, api.ErrRange}, {unset, 0, 0, ticks{Lo: 5, Hi: end - 1}, set(0, 5, end, 0), 0}, {unset, 0, 0, ticks{Lo: -end - 1, Hi: 0}, nothing, api.ErrRange}, {unset, 0, 0, ticks{Lo: -end, Hi: 0}, set(0, -end, 1, 0), 0}, {unset, 0, 0, ticks{Lo: -top, Hi: top - 1}, nothing, api.ErrRange}, {unset, 0, 0, ticks{Hi: top}, unset, 0},
		{unset, -1, 0, ticks{}, nothing, api.ErrOrder}, {clock.Clock{Set: -end, At: none}, -end, end, ticks{Lo: -end, Hi: -end}, nothing, api.ErrRange}, {clock.Clock{Set: -end, At: none}, -end, end - 1, ticks{Lo: -end, Hi: -end}, set(end-1, -end, end, 0), 0}, {set(end, 3, 4, 0), end, end, none, set(end, 3, 5, 0), 0}, {set(-end, 3, 4, 0), -end, -end, none, set(-end, 3, 5, 0), 0},
	} {
		x.check(t)
	}
	for c, want := range faultyClocks() {
		exchange{c, 5, 4, ticks{Lo: 9, Hi: 9}, nothing, want}.check(t)
		exchange{c, end + 1, 9, none, nothing, want}.check(t)
		exchange{c, max(-end, min(c.Set, end)), end, none, nothing, want}.check(t)
	}
}

// P8.4: comparison with Uniform, Meet and the quotient of the document in long whole numbers.
func TestSyncExact(t *testing.T) {
	const million = 1_000_000
	done, clashes := 0, 0
	for i, c := range validClocks() {
		for j := range uint64(40) {
			state := uint64(i)*1000 + j
			sent := c.Set + api.Tick(chance(state, 1<<j))
			got := sent + api.Tick(chance(state+1, 1<<(j/2)))
			if got > end {
				continue
			}
			span, told := int64(got-sent+1), none
			if own := clock.Uniform(c, got); !own.Unknown {
				told.Unknown = false
				told.Lo = own.Lo + api.Tick(chance(state+2, 4*span+64)-2*span-32)
				told.Hi = told.Lo + api.Tick(chance(state+3, 2*span+9))
			}
			came := bound.Add(told, bound.Of(0, ceil(span, million, million-c.Drift)))
			at, ok := bound.Meet(clock.Uniform(c, got), came)
			x := exchange{c, sent, got, told, clock.Clock{Set: got, At: at, Drift: c.Drift}, api.OK}
			if !ok {
				x.want, x.e = clock.Clock{}, api.ErrClash
				clashes++
			} else if e := clock.Check(x.want); e != api.OK {
				x.want, x.e = clock.Clock{}, e
			} else {
				done++
			}
			x.check(t)
		}
	}
	if done < 300 || clashes < 100 {
		t.Errorf("only %d clocks were set, and %d answers clashed", done, clashes)
	}
}

// sure returns a clock that showed 0 exactly at a time.
func sure(at api.Tick) clock.Clock { return set(0, at, at, 0) }

// P8.5: hand-written results: clocks that agree, clocks that are wrong, and clocks that tell nothing.
func TestAgree(t *testing.T) {
	l := []clock.Clock{sure(100), sure(101), sure(200)}
	unset, mixed := clock.Clock{At: none}, []clock.Clock{sure(100), {At: none, Drift: 9}, sure(101), sure(200)}
	ten := []api.Tick{10, 10, 10}
	for i, x := range []struct {
		l     []clock.Clock
		shown []api.Tick
		f     int
		want  ticks
	}{
		{l, ten, 1, ticks{Lo: 110, Hi: 111}}, {l, ten, 0, none}, {l, ten, 2, ticks{Lo: 109, Hi: 211}}, {l, ten, 3, none}, {l, ten, -1, none}, {l, ten, least, none}, {l, ten, most, none},
		{l, []api.Tick{10, 9, 10}, 1, ticks{Lo: 109, Hi: 111}}, {l, []api.Tick{10, 8, 10}, 1, ticks{Lo: 109, Hi: 110}}, {l, []api.Tick{110, 109, 10}, 0, ticks{Lo: 209, Hi: 211}},
		// A clock that was set later than it shows, or shows what is not in time, tells nothing.
		{l, []api.Tick{10, 10, -1}, 0, ticks{Lo: 110, Hi: 111}}, {l, []api.Tick{10, -1, end + 1}, 0, ticks{Lo: 109, Hi: 111}}, {l, []api.Tick{10, -1, 10}, 2, none}, {l, []api.Tick{-1, least, most}, 0, none},
		{mixed, []api.Tick{10, 10, 10, 10}, 1, ticks{Lo: 110, Hi: 111}}, {mixed, []api.Tick{10, 10, 10, 10}, 3, none}, {[]clock.Clock{unset, unset}, []api.Tick{1, 2}, 0, none}, {[]clock.Clock{unset}, []api.Tick{1}, 1, none},
		{nil, nil, 0, none}, {nil, nil, 5, none}, {l[:1], ten[:1], 0, ticks{Lo: 109, Hi: 111}}, {l[:1], ten[:1], 1, none}, {[]clock.Clock{set(1000, 5000, 5010, 100_000)}, []api.Tick{1100}, 0, ticks{Lo: 5090, Hi: 5123}},
	} {
		if b, e := clock.Agree(x.l, x.shown, x.f); b != x.want || e != api.OK {
			t.Errorf("case %d: got %v, %d, want %v", i, b, e, x.want)
		}
	}
}

// P8.5: each error, and the order of the errors.
func TestAgreeErrors(t *testing.T) {
	bad, worse := clock.Clock{Drift: -1}, set(0, 1, 0, 0)
	for i, x := range []struct {
		l     []clock.Clock
		shown int
		e     api.Errno
	}{
		{make([]clock.Clock, 65), 65, api.ErrLarge}, {make([]clock.Clock, 65), 0, api.ErrLarge}, {make([]clock.Clock, 65), 64, api.ErrLarge}, {make([]clock.Clock, 1000), 1000, api.ErrLarge}, {append(make([]clock.Clock, 64), bad), 65, api.ErrLarge}, {append([]clock.Clock{bad}, make([]clock.Clock, 64)...), 3, api.ErrLarge},
		{make([]clock.Clock, 64), 63, api.ErrShort}, {make([]clock.Clock, 64), 65, api.ErrShort}, {nil, 1, api.ErrShort}, {make([]clock.Clock, 1), 0, api.ErrShort}, {make([]clock.Clock, 2), 1000, api.ErrShort}, {[]clock.Clock{bad}, 0, api.ErrShort}, {[]clock.Clock{bad}, 2, api.ErrShort},
		{[]clock.Clock{bad}, 1, api.ErrRange}, {[]clock.Clock{worse}, 1, api.ErrOrder}, {[]clock.Clock{bad, worse}, 2, api.ErrRange}, {[]clock.Clock{worse, bad}, 2, api.ErrOrder}, {[]clock.Clock{sure(1), sure(2), worse, bad}, 4, api.ErrOrder}, {append(make([]clock.Clock, 63), bad), 64, api.ErrRange},
	} {
		for _, f := range []int{0, 1, -1} {
			if b, e := clock.Agree(x.l, make([]api.Tick, x.shown), f); b != (ticks{}) || e != x.e {
				t.Errorf("case %d: got %v, %d, want %d", i, b, e, x.e)
			}
		}
	}
	if b, e := clock.Agree(make([]clock.Clock, 64), make([]api.Tick, 64), 63); b != (ticks{Hi: 1}) || e != api.OK {
		t.Errorf("64 clocks: %v, %d", b, e)
	}
	for c, want := range faultyClocks() {
		if b, e := clock.Agree([]clock.Clock{sure(5), c}, []api.Tick{1, most}, 1); b != (ticks{}) || e != want {
			t.Errorf("%v: got %v, %d, want %d", c, b, e, want)
		}
	}
}

// P8.5: comparison with Fuse of what the single clocks say, for lists of all lengths.
func TestAgreeExact(t *testing.T) {
	known := 0
	for n := range 65 {
		var l []clock.Clock
		var shown []api.Tick
		var times []ticks
		for i := range n {
			state := uint64(100*n + i)
			at := api.Tick(chance(state, 40))
			c := set(0, at, at+api.Tick(chance(state+1, 60)), chance(state+2, clock.MaxDrift+1))
			if chance(state+3, 5) == 0 {
				c.At = none
			}
			l, shown = append(l, c), append(shown, api.Tick(chance(state+4, 30))-2)
			times = append(times, clock.Uniform(c, shown[i]))
		}
		for f := -1; f <= n+1; f++ {
			want := bound.Fuse(times, f)
			if b, e := clock.Agree(l, shown, f); b != want || e != api.OK {
				t.Errorf("%d clocks, f = %d: got %v, %d, want %v", n, f, b, e, want)
			}
			if !want.Unknown {
				known++
			}
		}
	}
	if known < 500 {
		t.Errorf("only %d lists of clocks agreed", known)
	}
}
