package prop_test

import (
	"slices"
	"testing"

	"spyglass/api"
	"spyglass/prop"
	"spyglass/scale"
)

// evening returns a valid night.
func evening() api.Night {
	return api.Night{
		Site: api.Site{Lat: 12345, Lon: 67890}, Spin: api.Rate{At: 5, Angle: 6, Arcs: scale.Earth()},
		Begin: 1000, Long: 600_000, Slots: 3, Sun: at(1, 2, -3), Moon: at(0, -5, 0), Dusk: -one / 10, Cloud: []int{0, 4, 2},
	}
}

// spin returns the rotation of evening with another speed.
func spin(n, d int64) api.Rate {
	return api.Rate{At: 5, Angle: 6, Arcs: api.Frac{Num: n, Den: d}}
}

// spinFaults returns faults of rotations, in the order of P12.4.
func spinFaults() (list []fault[api.Rate]) {
	add := func(rank int, want api.Errno, change func(*api.Rate)) {
		list = append(list, fault[api.Rate]{rank, want, change})
	}
	for _, n := range []api.Tick{end + 1, -end - 1, most, least} {
		add(1, api.ErrRange, func(r *api.Rate) { r.At = n })
	}
	for _, n := range []api.Arc{-1, turn, most, least} {
		add(1, api.ErrRange, func(r *api.Rate) { r.Angle = n })
	}
	for _, c := range []struct {
		rank int
		want api.Errno
		f    api.Frac
	}{
		{2, api.ErrRange, api.Frac{Num: 50, Den: 0}}, {2, api.ErrRange, api.Frac{Num: 50, Den: -1}}, {2, api.ErrRange, api.Frac{}}, {2, api.ErrRange, api.Frac{Num: least, Den: least}},
		{3, api.ErrForm, api.Frac{Num: 100, Den: 2}}, {3, api.ErrForm, api.Frac{Num: 500, Den: 2}}, {3, api.ErrForm, api.Frac{Num: 0, Den: 2}},
		{4, api.ErrArg, api.Frac{Num: 0, Den: 1}}, {4, api.ErrArg, api.Frac{Num: -50, Den: 1}}, {4, api.ErrArg, api.Frac{Num: 1<<16 + 1, Den: 1}},
		{5, api.ErrRange, api.Frac{Num: 1 << 16, Den: 1}}, {5, api.ErrRange, api.Frac{Num: 101, Den: 1}}, {5, api.ErrRange, api.Frac{Num: 201, Den: 2}}, {5, api.ErrRange, api.Frac{Num: 1<<53*100 + 1, Den: 1 << 53}},
		{5, api.ErrRange, api.Frac{Num: 1, Den: 2}}, {5, api.ErrRange, api.Frac{Num: 99, Den: 100}}, {5, api.ErrRange, api.Frac{Num: api.MaxNum - 1, Den: api.MaxNum}}, {5, api.ErrRange, api.Frac{Num: 1, Den: api.MaxNum}},
	} {
		add(c.rank, c.want, func(r *api.Rate) { r.Arcs = c.f })
	}
	return list
}

// P12.4: each error of a rotation, and the order of the errors.
func TestCheckSpin(t *testing.T) {
	testFaults(t, func() api.Rate { return spin(50, 1) }, spinFaults(), prop.CheckSpin)
}

// spins returns rotations that are valid, up to the limits.
func spins() []api.Rate {
	return []api.Rate{
		spin(1, 1), spin(100, 1), spin(199, 2), spin(101, 100), spin(1<<53*100-1, 1<<53), spin(api.MaxNum, api.MaxNum-1), spin(3, 2), {Arcs: scale.Earth()},
		{At: end, Angle: turn - 1, Arcs: scale.Earth()}, {At: -end, Arcs: scale.Earth()},
	}
}

// P12.4: rotations are valid up to the limits.
func TestSpinLimits(t *testing.T) {
	for _, r := range spins() {
		if e := prop.CheckSpin(r); e != api.OK {
			t.Errorf("%v: got %d", r, e)
		}
	}
}

// nightFaults returns faults of nights with three slots, in the order of P12.4.
func nightFaults() (list []fault[api.Night]) {
	add := func(rank int, want api.Errno, change func(*api.Night)) {
		list = append(list, fault[api.Night]{rank, want, change})
	}
	for _, k := range []int{0, -1, 65, most, least} {
		add(1, api.ErrRange, func(n *api.Night) { n.Slots = k })
	}
	for _, d := range []api.Tick{59_999, 1_800_001, 0, -60_000, most, least} {
		add(1, api.ErrRange, func(n *api.Night) { n.Long = d })
	}
	for _, d := range []api.Tick{end/2 + 1, -end/2 - 1, end, most, least} {
		add(2, api.ErrRange, func(n *api.Night) { n.Begin = d })
	}
	for _, a := range []api.Arc{turn/4 + 1, -turn/4 - 1, most, least} {
		add(3, api.ErrRange, func(n *api.Night) { n.Site.Lat = a })
	}
	for _, a := range []api.Arc{-1, turn, most, least} {
		add(3, api.ErrRange, func(n *api.Night) { n.Site.Lon = a })
	}
	for _, f := range spinFaults() {
		add(3+f.rank, f.want, func(n *api.Night) { f.make(&n.Spin) })
	}
	for _, v := range []vec{{}, at(rim+1, 0, 0), at(0, -rim-1, 5), at(1, 1, most), at(least, 0, 0)} {
		add(9, api.ErrForm, func(n *api.Night) { n.Sun = v })
		add(9, api.ErrForm, func(n *api.Night) { n.Moon = v })
	}
	for _, f := range []api.Fix{1, -one - 1, one, most, least} {
		add(10, api.ErrRange, func(n *api.Night) { n.Dusk = f })
	}
	for _, l := range [][]int{nil, {0}, {0, 1}, {0, 1, 2, 3}, {9, 9}, {9, 9, 9, 9}, make([]int, 64), make([]int, 1000)} {
		add(11, api.ErrForm, func(n *api.Night) { n.Cloud = l })
	}
	for k := range 3 {
		for _, grade := range []int{-1, 5, most, least} {
			add(12, api.ErrRange, func(n *api.Night) {
				n.Cloud = []int{0, 4, 2}
				n.Cloud[k] = grade
			})
		}
	}
	return list
}

// P12.4: each error of a night, and the order of the errors.
func TestCheckNight(t *testing.T) {
	testFaults(t, evening, nightFaults(), prop.CheckNight)
}

// P12.4: nights are valid up to the limits.
func TestNightLimits(t *testing.T) {
	changes := []func(*api.Night){
		func(n *api.Night) { n.Slots, n.Cloud = 1, []int{4} }, func(n *api.Night) { n.Slots, n.Cloud = 64, make([]int, 64) }, func(n *api.Night) { n.Slots, n.Cloud = 5, []int{4, 3, 2, 1, 0} },
		func(n *api.Night) { n.Long = 60_000 }, func(n *api.Night) { n.Long = 1_800_000 },
		func(n *api.Night) { n.Begin = end / 2 }, func(n *api.Night) { n.Begin = -end / 2 },
		func(n *api.Night) { n.Site = api.Site{Lat: turn / 4, Lon: turn - 1} }, func(n *api.Night) { n.Site = api.Site{Lat: -turn / 4} },
		func(n *api.Night) { n.Sun = at(rim, -rim, rim) }, func(n *api.Night) { n.Moon = at(-rim, rim, -rim) },
		func(n *api.Night) { n.Dusk = 0 }, func(n *api.Night) { n.Dusk = -one },
	}
	for _, r := range spins() {
		changes = append(changes, func(n *api.Night) { n.Spin = r })
	}
	for _, a := range changes {
		for _, b := range changes {
			n := evening()
			a(&n)
			b(&n)
			if e := prop.CheckNight(n); e != api.OK {
				t.Errorf("%v: got %d", n, e)
			}
		}
	}
}

// P12.4: there are as many cloud grades as slots, and each of them counts.
func TestClouds(t *testing.T) {
	for slots := 1; slots <= 64; slots++ {
		for count := range 67 {
			n, want := evening(), api.OK
			n.Slots, n.Cloud = slots, slices.Repeat([]int{4}, count)
			if count != slots {
				want = api.ErrForm
			}
			if e := prop.CheckNight(n); e != want {
				t.Errorf("%d slots, %d grades: %d", slots, count, e)
			}
		}
		n := evening()
		n.Slots, n.Cloud = slots, make([]int, slots)
		for k := range slots {
			n.Cloud[k] = 5
			if e := prop.CheckNight(n); e != api.ErrRange {
				t.Errorf("%d slots, grade 5 in slot %d: %d", slots, k, e)
			}
			n.Cloud[k] = 1
		}
	}
}
