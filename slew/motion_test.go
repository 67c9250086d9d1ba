package slew_test

import (
	"testing"

	"spyglass/api"
	"spyglass/slew"
)

// braking returns the braking distance of a speed, term by term as the chapter says.
func braking(a axis, v int64) (d int64) {
	for ; v > 0; v -= a.Accel {
		d += v
	}
	return d
}

// P14.3: speeds whose braking distance is known.
func TestKnownSpeeds(t *testing.T) {
	a := axis{Speed: 4 * slow, Accel: slow}
	for _, c := range []struct{ d, want int64 }{
		{least, 0}, {-1, 0}, {0, 0}, {1, 1}, {slow - 1, slow - 1}, {slow, slow}, {slow + 1, slow}, {slow + 2, slow + 1}, {slow + 3, slow + 1}, {3*slow - 1, 2*slow - 1}, {3 * slow, 2 * slow}, {3*slow + 2, 2 * slow},
		{3*slow + 3, 2*slow + 1}, {6*slow - 1, 3*slow - 1}, {6 * slow, 3 * slow}, {10*slow - 1, 4*slow - 1}, {10 * slow, 4 * slow}, {10*slow + 4, 4 * slow}, {256 * slow, 4 * slow}, {most, 4 * slow},
	} {
		if v := slew.Fastest(a, c.d); v != c.want {
			t.Errorf("Fastest(%v, %d): got %d, want %d", a, c.d, v, c.want)
		}
	}
}

// P14.3: the braking distance of the fastest speed is not too great, and that of the next speed is, unless it is too fast.
func TestFastest(t *testing.T) {
	for i, a := range axes(400) {
		draw := draws(uint64(i) << 12)
		far := braking(a, a.Speed)
		list := []int64{0, 1, 2, a.Accel, a.Accel + 1, far - 1, far, far + 1, a.Speed, 64*a.Speed - 1, 64 * a.Speed, 64*a.Speed + 1, 1 << 40, 1 << 59, most - a.Speed, most - 1, most}
		for range 100 {
			v := draw(0, a.Speed)
			list = append(list, draw(0, far), draw(0, 2*a.Accel), braking(a, v), max(0, braking(a, v)-1), draw(0, most-1))
		}
		for _, d := range list {
			v := slew.Fastest(a, d)
			if v < 0 || v > a.Speed || braking(a, v) > d || v < a.Speed && braking(a, v+1) <= d {
				t.Fatalf("Fastest(%v, %d): got %d", a, d, v)
			}
		}
		for _, d := range []int64{-1, -2, -a.Speed, least + 1, least} {
			if v := slew.Fastest(a, d); v != 0 {
				t.Fatalf("Fastest(%v, %d): got %d", a, d, v)
			}
		}
	}
}

// P14.3: an axis that is not valid has no speed.
func TestFastestOfNone(t *testing.T) {
	for _, f := range axisFaults() {
		a := plain()
		f.make(&a)
		for _, d := range []int64{least, -1, 0, 1, slow, limit, most} {
			if v := slew.Fastest(a, d); v != 0 {
				t.Errorf("Fastest(%v, %d): got %d", a, d, v)
			}
		}
	}
}

// P14.3, P14.4: motions whose speeds are known; there is none if the axis is there.
func TestKnownSteps(t *testing.T) {
	for _, c := range []struct {
		speed, accel, d int64
		want            int
	}{
		{slow, slow, 0, 0}, {slow, slow, 1, 2}, {slow, slow, slow, 2}, {slow, slow, slow + 1, 3}, {slow, slow, 3 * slow, 4}, {slow, slow, turn, 257}, {slow, slow, 2 * limit, 2049},
		{2 * slow, slow, slow, 2}, {2 * slow, slow, slow + 1, 3}, {2 * slow, slow, 2 * slow, 3}, {2 * slow, slow, 2*slow + 1, 4}, {2 * slow, slow, 3 * slow, 4}, {2 * slow, slow, 4 * slow, 4}, {2 * slow, slow, 4*slow + 1, 5}, {2 * slow, slow, 6 * slow, 5},
		{fast, fast, turn, 5}, {fast, fast / 2, turn, 6},
		// The speeds are up to 45 * 2^24 and down again.
		{fast, fast / 64, 45 * 45 * fast / 64, 90}, {fast, fast / 64, 45*45*fast/64 + 1, 91},
		// The speeds are up to 64 * 2^18 and down again, 64 times 2^24 in all, and 2^24 in the other steps.
		{slow, 1 << 18, 2 * limit, 2*64 - 1 + 2048 - 64 + 1},
	} {
		a := axis{Min: -limit, Max: limit, Speed: c.speed, Accel: c.accel}
		if n, e := slew.Steps(a, -limit, -limit+c.d); n != c.want || e != api.OK {
			t.Errorf("%v: got %d, %d", c, n, e)
		}
	}
	// The example of the chapter.
	if n, e := slew.Steps(axis{Max: 1000000000, Speed: 1 << 24, Accel: 1 << 24}, 0, 3<<24); n != 4 || e != api.OK {
		t.Errorf("got %d, %d", n, e)
	}
}

// fastestOf returns the greatest speed from 0 to hi with a braking distance of at most d.
func fastestOf(a axis, hi, d int64) int64 {
	lo := int64(0)
	for lo < hi {
		if mid := (lo + hi + 1) / 2; braking(a, mid) <= d {
			lo = mid
		} else {
			hi = mid - 1
		}
	}
	return lo
}

// motion returns the speeds of a motion over a distance, from the definition of the braking distance.
func motion(a axis, d int64) (speeds []int64) {
	speed := int64(0)
	for d > 0 || speed > 0 {
		speed = fastestOf(a, min(speed+a.Accel, a.Speed), d)
		d -= speed
		speeds = append(speeds, speed)
	}
	return speeds
}

// isSmooth reports whether a motion goes exactly as far as it shall, with permitted speeds, and ends at rest.
func isSmooth(a axis, d int64, speeds []int64) bool {
	before := int64(0)
	for _, v := range speeds {
		if v < 0 || v > a.Speed || v-before > a.Accel || before-v > a.Accel || v > d {
			return false
		}
		d -= v
		before = v
	}
	return d == 0 && before == 0
}

// P14.3, P14.4: the number of steps is that of the motion, which depends on the distance only and has permitted speeds.
func TestSteps(t *testing.T) {
	for i, a := range axes(150) {
		draw := draws(uint64(i) << 12)
		far := braking(a, a.Speed)
		for _, d := range []int64{0, 1, 2, 3, a.Accel - 1, a.Accel, a.Accel + 1, 3 * a.Accel, far, far + 1, 2*far - a.Speed, 2 * far, draw(0, far), draw(0, 2*a.Accel), a.Max - a.Min, draw(0, a.Max-a.Min), draw(0, a.Max-a.Min)} {
			if d > a.Max-a.Min {
				continue
			}
			speeds := motion(a, d)
			if !isSmooth(a, d, speeds) || (d == 0) != (len(speeds) == 0) {
				t.Fatalf("%v: the motion over %d is %v", a, d, speeds)
			}
			from := draw(a.Min, a.Max-d)
			for _, p := range [][2]int64{{from, from + d}, {from + d, from}, {a.Min, a.Min + d}, {a.Max, a.Max - d}} {
				if n, e := slew.Steps(a, p[0], p[1]); n != len(speeds) || e != api.OK {
					t.Fatalf("Steps(%v, %d, %d): got %d, %d, want %d", a, p[0], p[1], n, e, len(speeds))
				}
			}
		}
	}
}

// P14.4: each error of Steps, and their order.
func TestStepsErrors(t *testing.T) {
	type call struct {
		a        axis
		from, to int64
	}
	for _, p := range [][2]int64{{-3, 5}, {5, -3}} {
		valid := func() call { return call{axis{Min: -3, Max: 5, Speed: slow, Accel: slow}, p[0], p[1]} }
		faults := within(0, axisFaults(), func(c *call) *axis { return &c.a })
		for _, out := range []int64{-4, 6, turn, least, most} {
			faults = append(faults,
				fault[call]{3, api.ErrRange, func(c *call) { c.from = out }},
				fault[call]{3, api.ErrRange, func(c *call) { c.to = out }},
				fault[call]{3, api.ErrRange, func(c *call) { c.from, c.to = out, out }})
		}
		testFaults(t, valid, faults, func(c call) api.Errno {
			n, e := slew.Steps(c.a, c.from, c.to)
			if e != api.OK && n != 0 {
				t.Errorf("%v: got %d", c, n)
			}
			return e
		})
	}
}
