package bound_test

import (
	"math/big"
	"slices"
	"testing"

	"spyglass/api"
	"spyglass/bound"
)

// P2.1 to P2.8: a bound that is not valid counts as unknown in every function but Check.
func TestInvalidIsUnknown(t *testing.T) {
	valid := append(small(), fix{Lo: -top, Hi: top})
	for _, bad := range invalid() {
		for _, f := range ones() {
			if got := f.f(bad); got != none {
				t.Errorf("%s(%v) is %v", f.name, bad, got)
			}
		}
		for _, b := range valid {
			for _, f := range twos() {
				if f.f(bad, b) != none || f.f(b, bad) != none {
					t.Errorf("%s of %v and %v is known", f.name, bad, b)
				}
			}
			if bound.Inside(bad, b) != b.Unknown || !bound.Inside(b, bad) || bound.Cmp(bad, b) != 0 || bound.Cmp(b, bad) != 0 {
				t.Errorf("Inside or Cmp of %v and %v", bad, b)
			}
		}
	}
}

// P2.10: results admit what is computed exactly from numbers that the arguments admit.
func TestInclusion(t *testing.T) {
	for _, a := range small() {
		for _, b := range small() {
			for _, x := range numbers(a) {
				for _, y := range numbers(b) {
					if a.Unknown || b.Unknown {
						continue
					}
					for _, unit := range []int64{1, 3, 10} {
						p := ratio(int64(x), int64(y), unit)
						if !admits(bound.Mul(a, b, unit), floor(p), ceil(p)) {
							t.Errorf("Mul(%v, %v, %d) without %v", a, b, unit, p)
						}
						if s := bound.Scale(a, int64(y), unit); !admits(s, floor(p), ceil(p)) {
							t.Errorf("Scale(%v, %d, %d) without %v", a, y, unit, p)
						}
						if y == 0 {
							continue
						}
						q := ratio(int64(x), unit, int64(y))
						if !admits(bound.Div(a, b, unit), floor(q), ceil(q)) {
							t.Errorf("Div(%v, %v, %d) without %v", a, b, unit, q)
						}
					}
				}
			}
		}
	}
}

// P2.10: results of Root admit the exact roots rounded down, and rounded up.
func TestRootInclusion(t *testing.T) {
	for _, a := range bounds(-3, 0, 1, 2, 5, 9, 20, 26) {
		for _, x := range numbers(a) {
			for _, unit := range []int64{1, 3, api.One} {
				if a.Unknown || x < 0 {
					continue
				}
				n := new(big.Int).Mul(big.NewInt(int64(x)), big.NewInt(unit))
				if !admits(bound.Root(a, unit), new(big.Int).Sqrt(n), rootUp(n)) {
					t.Errorf("Root(%v, %d) without the root of %d", a, unit, x)
				}
			}
		}
	}
}

// nested returns the pairs of bounds of which the first one is inside the second one.
func nested(list []fix) [][2]fix {
	var pairs [][2]fix
	for _, a := range list {
		for _, b := range list {
			if b.Unknown || !a.Unknown && b.Lo <= a.Lo && a.Hi <= b.Hi {
				pairs = append(pairs, [2]fix{a, b})
			}
		}
	}
	return pairs
}

// P2.11: functions of two bounds are isotone, for small numbers and up to the limits.
func TestIsotonyOfTwo(t *testing.T) {
	for _, list := range [][]fix{bounds(-3, -1, 0, 2, 3), bounds(-top, -top/2, -1, 0, 5, top/2, top)} {
		chains := nested(list)
		for _, a := range chains {
			for _, b := range chains {
				for _, f := range twos() {
					if inner, outer := f.f(a[0], b[0]), f.f(a[1], b[1]); !bound.Inside(inner, outer) {
						t.Fatalf("%s of %v and %v: %v is not inside %v", f.name, a, b, inner, outer)
					}
				}
				inner, ok := bound.Meet(a[0], b[0])
				if outer, k := bound.Meet(a[1], b[1]); ok && (!k || !bound.Inside(inner, outer)) {
					t.Fatalf("Meet of %v and %v: %v is not inside %v", a, b, inner, outer)
				}
			}
		}
	}
}

// P2.11: functions of one bound are isotone; Root only if the upper end of the narrower one is not negative.
func TestIsotonyOfOne(t *testing.T) {
	for _, list := range [][]fix{small(), far()} {
		for _, a := range nested(list) {
			for _, f := range ones() {
				if f.name == "Root" && a[0].Hi < 0 {
					continue
				}
				if inner, outer := f.f(a[0]), f.f(a[1]); !bound.Inside(inner, outer) {
					t.Fatalf("%s of %v: %v is not inside %v", f.name, a, inner, outer)
				}
			}
		}
	}
}

// outcome is all that the functions return for three bounds and three numbers.
type outcome struct {
	check, order, votes    int
	none, norm, of, exact  fix
	as                     api.Bound[api.Arc]
	has, inside, met, wide bool
	width                  api.Fix
	meet, sum, total, fuse fix
	mul, div, scale, root  fix
	one, two               [10]fix
}

// all calls every function of the package.
func all(a, b fix, m, n int64) (r outcome) {
	list := []fix{a, b, a}
	r.check, r.order, r.votes = int(bound.Check(a)), bound.Cmp(a, b), bound.Votes(list, api.Fix(m))
	r.none, r.norm, r.of, r.exact = bound.None[api.Fix](), bound.Norm(a), bound.Of(a.Lo, b.Hi), bound.Exact(api.Fix(m))
	r.as = bound.As[api.Arc](a)
	r.has, r.inside = bound.Has(a, api.Fix(m)), bound.Inside(a, b)
	r.width, r.wide = bound.Width(a)
	r.meet, r.met = bound.Meet(a, b)
	r.sum, r.total, r.fuse = bound.Sum(list), bound.Total(slices.Values(list)), bound.Fuse(list, int(m))
	r.mul, r.div, r.scale, r.root = bound.Mul(a, b, n), bound.Div(a, b, n), bound.Scale(a, m, n), bound.Root(a, n)
	for i, f := range ones()[:4] {
		r.one[i] = f.f(a)
	}
	for i, f := range twos()[:7] {
		r.two[i] = f.f(a, b)
	}
	return r
}

// Z1, Z2, Z3: no arguments make a function panic, results depend on the arguments alone, and they are valid bounds.
func TestAnyArguments(t *testing.T) {
	list := append(invalid(), bounds(-top, -1, 0, 2, top)...)
	figures := []int64{least, -api.MaxNum - 1, -1, 0, 1, 2, api.MaxNum, most}
	for _, a := range list {
		for _, b := range list {
			for _, m := range figures {
				for _, n := range figures {
					r := all(a, b, m, n)
					if r != all(a, b, m, n) {
						t.Fatalf("%v, %v, %d, %d: two results", a, b, m, n)
					}
					results := slices.Concat(r.one[:], r.two[:], []fix{r.none, r.norm, r.of, r.exact, r.meet, r.sum, r.total, r.fuse, r.mul, r.div, r.scale, r.root})
					for i, x := range results {
						if bound.Check(x) != api.OK {
							t.Fatalf("%v, %v, %d, %d: result %d is %v", a, b, m, n, i, x)
						}
					}
				}
			}
		}
	}
}

// Z2: lists are left as they are, also behind their length.
func TestListsUnchanged(t *testing.T) {
	memory := []fix{{Lo: 9, Hi: 12}, none, {Lo: 3, Hi: 2}, {Lo: 1, Hi: 10}, {Lo: -5, Hi: 9}, {Lo: 8, Hi: 8}}
	before := slices.Clone(memory)
	list := memory[:4]
	bound.Sum(list)
	bound.Votes(list, 9)
	bound.Fuse(list, 0)
	bound.Fuse(list, 1)
	if !slices.Equal(memory, before) {
		t.Errorf("the list is changed: %v", memory)
	}
}

// Z4: nil and empty lists are the same.
func TestEmptyLists(t *testing.T) {
	if bound.Sum([]fix{}) != bound.Sum[api.Fix](nil) || bound.Votes([]fix{}, 0) != bound.Votes[api.Fix](nil, 0) || bound.Fuse([]fix{}, 0) != bound.Fuse[api.Fix](nil, 0) {
		t.Error("empty lists have other results than nil")
	}
}
