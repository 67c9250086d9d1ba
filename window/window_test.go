package window_test

import (
	"slices"
	"testing"

	"spyglass/api"
	"spyglass/bound"
	"spyglass/prop"
	"spyglass/sphere"
	"spyglass/window"
)

// The numbers of the reasons.
func TestLimits(t *testing.T) {
	if l := []int{window.Open, window.Light, window.Cloudy, window.Low, window.Bright}; !slices.Equal(l, []int{0, 1, 2, 3, 4}) {
		t.Error(l)
	}
}

// P13.1: the times of slots.
func TestWhen(t *testing.T) {
	n := evening()
	for _, c := range []struct {
		from, to int
		lo, hi   api.Tick
	}{
		{0, 0, 1000, 1000}, {0, 1, 1000, 601_000}, {0, 6, 1000, 3_601_000}, {1, 3, 601_000, 1_801_000}, {5, 6, 3_001_000, 3_601_000}, {6, 6, 3_601_000, 3_601_000}, {3, 3, 1_801_000, 1_801_000},
	} {
		if b := window.When(n, c.from, c.to); b != (ticks{Lo: c.lo, Hi: c.hi}) {
			t.Errorf("%d to %d: got %v", c.from, c.to, b)
		}
	}
	unknown := ticks{Unknown: true}
	for _, c := range [][2]int{{-1, 0}, {-1, -1}, {-1, 6}, {2, 1}, {6, 5}, {1, 0}, {0, 7}, {6, 7}, {7, 7}, {least, 0}, {least, most}, {0, most}, {most, most}, {most, least}, {least, least}} {
		if b := window.When(n, c[0], c[1]); b != unknown {
			t.Errorf("%d to %d: got %v", c[0], c[1], b)
		}
	}
	for _, f := range nightFaults() {
		n := evening()
		f.change(&n, nil)
		if b := window.When(n, 0, 1); b != unknown {
			t.Errorf("%v: got %v", n, b)
		}
	}
}

// P13.1: the times of slots of nights at the limits.
func TestWhenLimits(t *testing.T) {
	n := evening()
	n.Slots, n.Cloud, n.Long = 64, make([]int, 64), 1_800_000
	for _, c := range []struct {
		begin  api.Tick
		lo, hi api.Tick
	}{
		{end / 2, 1<<43 + 1_800_000, 1<<43 + 115_200_000}, {-end / 2, 1_800_000 - 1<<43, 115_200_000 - 1<<43}, {0, 1_800_000, 115_200_000}, {-1_800_000, 0, 113_400_000},
	} {
		n.Begin = c.begin
		if b := window.When(n, 1, 64); b != (ticks{Lo: c.lo, Hi: c.hi}) {
			t.Errorf("%d: got %v", c.begin, b)
		}
	}
	n.Long, n.Begin = 60_000, 7
	if b := window.When(n, 63, 64); b != (ticks{Lo: 3_780_007, Hi: 3_840_007}) {
		t.Error(b)
	}
}

// P13.1: slots of nights, dark and not dark.
func TestDark(t *testing.T) {
	for _, c := range []struct {
		sun  vec
		dusk api.Fix
		want bool
	}{
		{deep, 0, true}, {deep, -one / 2, true}, {deep, -one, false}, {deep, -one + 1, false}, {high, 0, false}, {high, -one, false},
	} {
		n := evening()
		n.Sun, n.Dusk = c.sun, c.dusk
		if l := window.Dark(n); len(l) != 6 || slices.Contains(l, !c.want) {
			t.Errorf("%v, %d: got %v", c.sun, c.dusk, l)
		}
	}
	for _, f := range nightFaults() {
		n := evening()
		f.change(&n, nil)
		if l := window.Dark(n); len(l) != 0 {
			t.Errorf("%v: got %v", n, l)
		}
	}
}

// P13.1: a slot is dark if the sun is at most at the height Dusk for all of it.
func TestDusk(t *testing.T) {
	seen := map[bool]int{}
	nights(300, func(n night, _ request) {
		for k, isDark := range window.Dark(n) {
			hi := during(n, k, n.Sun).Hi
			if isDark != (hi <= n.Dusk) {
				t.Fatalf("%v: slot %d is %v", n, k, isDark)
			}
			seen[isDark]++
			if hi > 0 || hi <= -one {
				continue
			}
			even, below := n, n
			even.Dusk, below.Dusk = hi, hi-1
			if !window.Dark(even)[k] || window.Dark(below)[k] {
				t.Fatalf("%v: slot %d changes at another height than %d", n, k, hi)
			}
		}
	})
	if seen[true] < 1000 || seen[false] < 1000 {
		t.Error(seen)
	}
}

// P13.2: the example of the chapter.
func TestExample(t *testing.T) {
	n, r := evening(), wish()
	n.Cloud[3], r.Cloud = 2, 1
	if why, e := window.Why(n, r, 3); why != window.Cloudy || e != api.OK {
		t.Error(why, e)
	}
}

// P13.2: of the reasons for which a slot is closed, the first one is named.
func TestFirstReason(t *testing.T) {
	for causes := range 16 {
		n, r := evening(), wish()
		n.Moon = at(0, 1, 40)
		r.Moon = one
		want := window.Open
		add := func(why int, change func()) {
			if causes>>(why-1)&1 == 0 {
				return
			}
			change()
			if want == window.Open {
				want = why
			}
		}
		add(window.Light, func() { n.Sun = high })
		add(window.Cloudy, func() { r.Cloud = 3 })
		add(window.Low, func() { r.Height = one })
		add(window.Bright, func() { r.Moon = 0 })
		if why, e := window.Why(n, r, 4); why != want || e != api.OK {
			t.Errorf("%b: got %d, %d", causes, why, e)
		}
	}
}

// P13.2: a slot is closed if its cloud grade exceeds that of the request.
func TestCloudy(t *testing.T) {
	n, r := evening(), wish()
	for k, grade := range n.Cloud {
		for r.Cloud = range prop.MaxCloud + 1 {
			want := window.Open
			if grade > r.Cloud {
				want = window.Cloudy
			}
			if why, e := window.Why(n, r, k); why != want || e != api.OK {
				t.Errorf("%d, %d: got %d, %d", grade, r.Cloud, why, e)
			}
		}
	}
}

// P13.2: the field is to be at least at Height for the whole slot.
func TestLow(t *testing.T) {
	nights(100, func(n night, r request) {
		n.Sun, n.Dusk, n.Moon, r.Moon, r.Cloud = deep, 0, deep, one, 4
		if during(n, 0, n.Sun).Hi > 0 {
			n.Sun = high
		}
		for k, isDark := range window.Dark(n) {
			lo := during(n, k, r.At).Lo
			if !isDark || lo >= one {
				continue
			}
			r.Height = lo
			if why, e := window.Why(n, r, k); why != window.Open || e != api.OK {
				t.Fatalf("%v, %v: slot %d has %d, %d", n, r, k, why, e)
			}
			r.Height = lo + 1
			if why, e := window.Why(n, r, k); why != window.Low || e != api.OK {
				t.Fatalf("%v, %v: slot %d has %d, %d", n, r, k, why, e)
			}
		}
	})
}

// P13.2: the cosine of the angle between the field and the moon is to be at most Moon if the moon may be up.
func TestNearMoon(t *testing.T) {
	n, r := evening(), wish()
	for _, moon := range []vec{high, at(1, 2, 40), at(-30, 1, 40), at(3, 4, 12), at(0, 0, 1), at(-7, 5, 20)} {
		n.Moon = moon
		nearest := sphere.Cosine(high, moon).Hi
		r.Moon = nearest
		if why, e := window.Why(n, r, 2); why != window.Open || e != api.OK {
			t.Errorf("%v: got %d, %d", moon, why, e)
		}
		r.Moon--
		if why, e := window.Why(n, r, 2); why != window.Bright || e != api.OK {
			t.Errorf("%v: got %d, %d", moon, why, e)
		}
	}
	// It is below the horizon, however near.
	r.Moon = -one
	for _, moon := range []vec{deep, at(1, 2, -40), at(0, 0, -1)} {
		n.Moon = moon
		if why, e := window.Why(n, r, 2); why != window.Open || e != api.OK {
			t.Errorf("%v: got %d, %d", moon, why, e)
		}
	}
}

// P13.2: the moon may be up if its height in the slot reaches 0, which is no negative number.
func TestMoonRise(t *testing.T) {
	n, r := evening(), wish()
	n.Site.Lat, n.Moon, r.Moon, r.Height = turn/6, at(0, 1, 0), -one, 0
	n.Spin.Arcs = api.Frac{Num: 1, Den: 1}
	found := map[api.Fix]int{}
	// The moon comes up while the angle is a little less than a whole turn before it stands in the east.
	for angle := turn - api.Arc(n.Long) - 2000; angle < turn; angle++ {
		n.Spin.Angle = angle
		hi := during(n, 0, n.Moon).Hi
		if hi < -3 || hi > 3 {
			continue
		}
		want := window.Open
		if hi >= 0 {
			want = window.Bright
		}
		if why, e := window.Why(n, r, 0); why != want || e != api.OK {
			t.Errorf("%d: got %d, %d", hi, why, e)
		}
		found[hi]++
		if hi == 3 {
			break
		}
	}
	if found[-1] == 0 || found[0] == 0 || found[1] == 0 {
		t.Error("the moon does not come up slowly: ", found)
	}
}

// P13.2: the errors of Why, in order.
func TestWhyErrors(t *testing.T) {
	for _, k := range []int{0, 5} {
		testErrors(t, func(n night, r request) api.Errno {
			why, e := window.Why(n, r, k)
			if e != api.OK && why != 0 {
				t.Errorf("a reason beside an error: %d, %d", why, e)
			}
			return e
		})
	}
	for _, k := range []int{-1, 6, 7, 64, most, least} {
		if why, e := window.Why(evening(), wish(), k); why != 0 || e != api.ErrRange {
			t.Errorf("%d: got %d, %d", k, why, e)
		}
		for _, f := range append(nightFaults(), requestFaults()...) {
			n, r := evening(), wish()
			f.change(&n, &r)
			if why, e := window.Why(n, r, k); why != 0 || e != f.want {
				t.Errorf("%v, %v, %d: got %d, %d", n, r, k, why, e)
			}
		}
	}
}

// P13.2, P13.3: the reasons of all slots are those of the chapter; the proposal, the weight and the visits do not matter.
func TestReasons(t *testing.T) {
	seen := map[int]int{}
	nights(500, func(n night, r request) {
		var want []int
		for k := range n.Slots {
			why, e := window.Why(n, r, k)
			if why != first(n, r, k) || e != api.OK {
				t.Fatalf("%v, %v: slot %d has %d, %d", n, r, k, why, e)
			}
			want = append(want, why)
			seen[why]++
		}
		if l, e := window.Slots(n, r); !slices.Equal(l, want) || e != api.OK {
			t.Fatalf("%v, %v: got %v, %d, not %v", n, r, l, e, want)
		}
		r.ID, r.Proposal, r.Weight, r.Visits, r.Least, r.Most, r.Len = 999, -5, 100, 4, 3, 9, 8
		if l, e := window.Slots(n, r); !slices.Equal(l, want) || e != api.OK {
			t.Fatalf("%v, %v: got %v, %d, not %v", n, r, l, e, want)
		}
	})
	for why := range 5 {
		if seen[why] < 300 {
			t.Errorf("reason %d is rare: %v", why, seen)
		}
	}
}

// P13.4: at any time within an open slot, and during any part of it, the field is high enough and the sun low enough.
func TestPartsOfSlots(t *testing.T) {
	count := 0
	nights(300, func(n night, r request) {
		list, _ := window.Slots(n, r)
		for k, why := range list {
			if why != window.Open {
				continue
			}
			slot := window.When(n, k, k+1)
			for i := range int64(6) {
				from := slot.Lo + api.Tick(chance(uint64(k)<<20+uint64(i), int64(n.Long)+1))
				to := from + api.Tick(chance(uint64(k)<<30+uint64(i), int64(slot.Hi-from)+1))
				switch i {
				case 0:
					from, to = slot.Lo, slot.Lo
				case 1:
					from, to = slot.Hi, slot.Hi
				case 2:
					to = from
				}
				field, sun, moon := duringTime(n, from, to, r.At), duringTime(n, from, to, n.Sun), duringTime(n, from, to, n.Moon)
				if field.Unknown || field.Lo < r.Height || sun.Unknown || sun.Hi > n.Dusk {
					t.Fatalf("%v, %v: from %d to %d, the field has %v and the sun %v", n, r, from, to, field, sun)
				}
				if bound.Has(moon, 0) && sphere.Cosine(r.At, n.Moon).Hi > r.Moon {
					t.Fatalf("%v, %v: from %d to %d, the moon may be up and near", n, r, from, to)
				}
				count++
			}
		}
	})
	if count < 1000 {
		t.Error("few open slots: ", count)
	}
}

// P13.4: a request that asks for less has every slot open that the other one has.
func TestLessRequired(t *testing.T) {
	grown := 0
	nights(300, func(n night, r request) {
		strict, _ := window.Slots(n, r)
		for i := range uint64(5) {
			s := r
			if i != 1 {
				s.Height -= api.Fix(chance(i+7, int64(r.Height)+one+1))
			}
			if i != 2 {
				s.Moon += api.Fix(chance(i+8, one-int64(r.Moon)+1))
			}
			if i != 3 {
				s.Cloud += int(chance(i+9, int64(prop.MaxCloud-r.Cloud)+1))
			}
			mild, e := window.Slots(n, s)
			if e != api.OK {
				t.Fatalf("%v: got %d", s, e)
			}
			for k, why := range mild {
				if strict[k] == window.Open && why != window.Open {
					t.Fatalf("%v: slot %d is open for %v and closed for %v", n, k, r, s)
				}
				if strict[k] != why {
					grown++
				}
			}
		}
	})
	if grown < 1000 {
		t.Error("few slots differ: ", grown)
	}
}

// P13.1, P13.2: the sky turns, the sun sets, and then the moon.
func TestTurningSky(t *testing.T) {
	// One slot is nearly a 24th of a turn, and the site on the equator has the right ascension 0 overhead when it begins.
	n := night{Spin: api.Rate{Arcs: api.Frac{Num: 100, Den: 1}}, Long: 1_789_570, Slots: 12, Sun: at(rim, -rim/2, 0), Moon: at(rim, 0, 0), Cloud: make([]int, 12)}
	r := request{ID: 1, At: at(-rim, rim, 0), Len: 1, Visits: 1, Height: 0, Moon: -one, Weight: 1}
	// The sun sets when the angle is 63 degrees, the field has risen at 45, and the moon sets at 90.
	want := []int{1, 1, 1, 1, 1, 4, 0, 0, 0, 0, 0, 0}
	if l, e := window.Slots(n, r); !slices.Equal(l, want) || e != api.OK {
		t.Errorf("got %v, %d", l, e)
	}
}
