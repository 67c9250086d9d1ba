package bound_test

import (
	"math/big"
	"testing"

	"spyglass/api"
	"spyglass/bound"
)

// P2.7: hand-written results, and each reason for an unknown one.
func TestProducts(t *testing.T) {
	one, whole := fix{Lo: 1, Hi: 1}, fix{Lo: -top, Hi: top}
	for i, c := range []struct{ got, want fix }{
		{bound.Mul(fix{Lo: -3, Hi: 2}, fix{Lo: 5, Hi: 7}, 2), fix{Lo: -11, Hi: 7}},
		{bound.Mul(fix{Lo: -3, Hi: 2}, fix{Lo: -5, Hi: 7}, 1), fix{Lo: -21, Hi: 15}},
		{bound.Mul(fix{Lo: 1, Hi: 2}, fix{Lo: 1, Hi: 1}, 4), fix{Lo: 0, Hi: 1}},
		{bound.Mul(fix{Lo: -2, Hi: -1}, fix{Lo: 1, Hi: 1}, 4), fix{Lo: -1, Hi: 0}},
		{bound.Mul(fix{Lo: api.One, Hi: api.One}, fix{Lo: -5, Hi: 3}, api.One), fix{Lo: -5, Hi: 3}},
		{bound.Mul(one, one, most), fix{Lo: 0, Hi: 1}},
		{bound.Mul(whole, whole, api.MaxNum), whole},
		{bound.Mul(whole, whole, api.MaxNum-1), none},
		{bound.Mul(whole, whole, 1), none},
		{bound.Mul(fix{Lo: top, Hi: top}, fix{Hi: 1}, 1), fix{Hi: top}},
		{bound.Mul(fix{Lo: top, Hi: top}, fix{Hi: 2}, 1), none},
		{bound.Mul(fix{Lo: top, Hi: top}, fix{Lo: -2}, 1), none},
		{bound.Mul(one, one, 0), none},
		{bound.Mul(one, one, -1), none},
		{bound.Mul(one, one, least), none},
		{bound.Mul(none, one, 1), none},
		{bound.Mul(one, none, 1), none},

		{bound.Div(fix{Lo: 1, Hi: 2}, fix{Lo: 3, Hi: 4}, 10), fix{Lo: 2, Hi: 7}},
		{bound.Div(fix{Lo: 1, Hi: 2}, fix{Lo: -4, Hi: -3}, 10), fix{Lo: -7, Hi: -2}},
		{bound.Div(fix{Lo: -2, Hi: -1}, fix{Lo: -4, Hi: -3}, 10), fix{Lo: 2, Hi: 7}},
		{bound.Div(fix{Lo: -2, Hi: 1}, fix{Lo: 3, Hi: 4}, 10), fix{Lo: -7, Hi: 4}},
		{bound.Div(whole, one, 1), whole},
		{bound.Div(whole, fix{Lo: -1, Hi: -1}, 1), whole},
		{bound.Div(whole, fix{Lo: top, Hi: top}, api.MaxNum), whole},
		{bound.Div(fix{Lo: top, Hi: top}, one, 2), none},
		{bound.Div(fix{Lo: -top, Hi: 0}, one, 2), none},
		{bound.Div(whole, fix{Lo: -top, Hi: -top}, most), none},
		{bound.Div(one, fix{Hi: 4}, 10), none},
		{bound.Div(one, fix{Lo: -4}, 10), none},
		{bound.Div(one, fix{Lo: -1, Hi: 4}, 10), none},
		{bound.Div(one, fix{}, 10), none},
		{bound.Div(one, one, 0), none},
		{bound.Div(one, one, -1), none},
		{bound.Div(one, one, least), none},
		{bound.Div(none, one, 1), none},
		{bound.Div(one, none, 1), none},

		{bound.Scale(fix{Lo: -3, Hi: 4}, -2, 3), fix{Lo: -3, Hi: 2}},
		{bound.Scale(fix{Lo: -3, Hi: 4}, 0, 3), fix{}},
		{bound.Scale(one, api.MaxNum, 1), fix{Lo: top, Hi: top}},
		{bound.Scale(one, -api.MaxNum, 1), fix{Lo: -top, Hi: -top}},
		{bound.Scale(fix{}, api.MaxNum+1, 1), none},
		{bound.Scale(fix{}, -api.MaxNum-1, 1), none},
		{bound.Scale(one, most, most), none},
		{bound.Scale(one, least, most), none},
		{bound.Scale(fix{Lo: 1, Hi: 2}, api.MaxNum, 1), none},
		{bound.Scale(whole, api.MaxNum, 1), none},
		{bound.Scale(whole, api.MaxNum, most), fix{Lo: -(top >> 3) - 1, Hi: top>>3 + 1}},
		{bound.Scale(one, 1, 0), none},
		{bound.Scale(one, 1, -1), none},
		{bound.Scale(one, 1, least), none},
		{bound.Scale(none, 1, 1), none},
	} {
		if c.got != c.want {
			t.Errorf("case %d: got %v, want %v", i, c.got, c.want)
		}
	}
}

// P2.7: comparison with the exact quotients of the ends, for small numbers and up to the limits.
func TestProductsExact(t *testing.T) {
	for _, list := range [][]fix{small(), far()} {
		for _, unit := range append(units(), 3, 10) {
			for _, a := range list {
				for _, b := range list {
					if a.Unknown || b.Unknown {
						continue
					}
					var products, quotients []*big.Rat
					for _, x := range []api.Fix{a.Lo, a.Hi} {
						for _, y := range []api.Fix{b.Lo, b.Hi} {
							products = append(products, ratio(int64(x), int64(y), unit))
							if y != 0 {
								quotients = append(quotients, ratio(int64(x), unit, int64(y)))
							}
						}
					}
					if got, want := bound.Mul(a, b, unit), outward(products); got != want {
						t.Fatalf("Mul(%v, %v, %d) is %v, not %v", a, b, unit, got, want)
					}
					want := none
					if !bound.Has(b, 0) {
						want = outward(quotients)
					}
					if got := bound.Div(a, b, unit); got != want {
						t.Fatalf("Div(%v, %v, %d) is %v, not %v", a, b, unit, got, want)
					}
				}
			}
		}
	}
}

// P2.7: comparison with the exact quotients of the ends.
func TestScaleExact(t *testing.T) {
	for _, a := range append(small(), far()...) {
		for _, d := range append(units(), 3, 10) {
			for _, n := range []int64{-api.MaxNum, -api.MaxNum / 3, -10, -3, -1, 0, 1, 2, 7, api.One, api.MaxNum / 3, api.MaxNum} {
				if a.Unknown {
					continue
				}
				want := outward([]*big.Rat{ratio(int64(a.Lo), n, d), ratio(int64(a.Hi), n, d)})
				if got := bound.Scale(a, n, d); got != want {
					t.Fatalf("Scale(%v, %d, %d) is %v, not %v", a, n, d, got, want)
				}
			}
		}
	}
}

// P2.8: squares and other numbers, negative ends, and each reason for an unknown result.
func TestRoot(t *testing.T) {
	for i, c := range []struct{ got, want fix }{
		{bound.Root(fix{}, 1), fix{}},
		{bound.Root(fix{Lo: 4, Hi: 9}, 1), fix{Lo: 2, Hi: 3}},
		{bound.Root(fix{Lo: 3, Hi: 10}, 1), fix{Lo: 1, Hi: 4}},
		{bound.Root(fix{Lo: 2, Hi: 9}, 4), fix{Lo: 2, Hi: 6}},
		{bound.Root(fix{Lo: 2, Hi: 2}, 1), fix{Lo: 1, Hi: 2}},
		{bound.Root(fix{Lo: -7, Hi: 10}, 1), fix{Lo: 0, Hi: 4}},
		{bound.Root(fix{Lo: -7}, 1), fix{}},
		{bound.Root(fix{Lo: -3, Hi: -1}, 1), none},
		{bound.Root(fix{Lo: -1, Hi: -1}, most), none},
		{bound.Root(fix{Lo: api.One, Hi: 4 * api.One}, api.One), fix{Lo: api.One, Hi: 2 * api.One}},
		{bound.Root(fix{Lo: top, Hi: top}, api.MaxNum), fix{Lo: top, Hi: top}},
		{bound.Root(fix{Lo: top, Hi: top}, api.MaxNum+1), none},
		{bound.Root(fix{Lo: top - 1, Hi: top - 1}, api.MaxNum), fix{Lo: top - 1, Hi: top}},
		{bound.Root(fix{Lo: -top, Hi: top}, most), none},
		{bound.Root(fix{Lo: 4, Hi: 9}, 0), none},
		{bound.Root(fix{Lo: 4, Hi: 9}, -1), none},
		{bound.Root(fix{}, 0), none},
		{bound.Root(fix{Lo: 4, Hi: 9}, least), none},
		{bound.Root(none, 1), none},
	} {
		if c.got != c.want {
			t.Errorf("case %d: got %v, want %v", i, c.got, c.want)
		}
	}
}

// rootUp returns the square root of n, rounded up.
func rootUp(n *big.Int) *big.Int {
	root := new(big.Int).Sqrt(n)
	if new(big.Int).Mul(root, root).Cmp(n) < 0 {
		root.Add(root, big.NewInt(1))
	}
	return root
}

// P2.8: comparison with exact roots, for small numbers and up to the limits.
func TestRootExact(t *testing.T) {
	var low []api.Fix
	for v := api.Fix(-2); v < 40; v++ {
		low = append(low, v)
	}
	for _, a := range append(bounds(low...), far()...) {
		for _, unit := range append(units(), 3, 16, 1<<61) {
			want := none
			if !a.Unknown && a.Hi >= 0 {
				lo := new(big.Int).Mul(big.NewInt(int64(max(a.Lo, 0))), big.NewInt(unit))
				hi := new(big.Int).Mul(big.NewInt(int64(a.Hi)), big.NewInt(unit))
				want = fits(lo.Sqrt(lo), rootUp(hi))
			}
			if got := bound.Root(a, unit); got != want {
				t.Fatalf("Root(%v, %d) is %v, not %v", a, unit, got, want)
			}
		}
	}
}
