package num_test

import (
	"math"
	"math/big"
	"testing"

	"spyglass/api"
	"spyglass/num"
)

// P1.6: products with every pair of signs, and at the limits.
func TestProduct(t *testing.T) {
	for _, c := range []struct {
		a, b int64
		w    num.Wide
	}{
		{0, least, num.Wide{}},
		{6, 7, num.Wide{Lo: 42}},
		{-1, 1, num.Wide{Hi: -1, Lo: math.MaxUint64}},
		{1, -1, num.Wide{Hi: -1, Lo: math.MaxUint64}},
		{-1, -1, num.Wide{Lo: 1}},
		{1 << 62, 8, num.Wide{Hi: 2}},
		{-1 << 62, 8, num.Wide{Hi: -2}},
		{least, least, num.Wide{Hi: 1 << 62}},
		{least, most, num.Wide{Hi: -1 << 62, Lo: 1 << 63}},
		{most, most, num.Wide{Hi: 1<<62 - 1, Lo: 1}},
	} {
		if w := num.Product(c.a, c.b); w != c.w {
			t.Errorf("Product(%d, %d) is %v, not %v", c.a, c.b, w, c.w)
		}
	}
	for _, a := range edges() {
		for _, b := range edges() {
			want := new(big.Int).Mul(big.NewInt(a), big.NewInt(b))
			if w := num.Product(a, b); exact(w).Cmp(want) != 0 {
				t.Errorf("Product(%d, %d) is %v, not %v", a, b, exact(w), want)
			}
		}
	}
}

// P1.6: carries between the halves, and the numbers that wrap around.
func TestNegPlus(t *testing.T) {
	low, high := num.Wide{Hi: least}, num.Wide{Hi: most, Lo: math.MaxUint64}
	for _, c := range [][2]num.Wide{
		{{}, {}},
		{{Lo: 1}, {Hi: -1, Lo: math.MaxUint64}},
		{{Hi: 1}, {Hi: -1}},
		{{Hi: 5, Lo: 7}, {Hi: -6, Lo: math.MaxUint64 - 6}},
		{high, {Hi: least, Lo: 1}},
	} {
		if w := c[0].Neg(); w != c[1] {
			t.Errorf("%v.Neg() is %v, not %v", c[0], w, c[1])
		}
		if w := c[1].Neg(); w != c[0] {
			t.Errorf("%v.Neg() is %v, not %v", c[1], w, c[0])
		}
	}
	if w := low.Neg(); w != low {
		t.Errorf("-2^127 negated is %v", w)
	}
	for _, c := range [][3]num.Wide{
		{{Lo: 2}, {Lo: 3}, {Lo: 5}},
		{{Lo: math.MaxUint64}, {Lo: 1}, {Hi: 1}},
		{{Hi: -1, Lo: math.MaxUint64}, {Lo: 1}, {}},
		{{Hi: 1}, {Hi: -1, Lo: math.MaxUint64}, {Lo: math.MaxUint64}},
		{high, {Lo: 1}, low},
		{low, {Hi: -1, Lo: math.MaxUint64}, high},
		{low, low, {}},
	} {
		if w := c[0].Plus(c[1]); w != c[2] {
			t.Errorf("%v.Plus(%v) is %v, not %v", c[0], c[1], w, c[2])
		}
	}
}

// P1.6: the order goes by the upper half with its sign, then by the lower one without a sign.
func TestCmp(t *testing.T) {
	order := []num.Wide{
		{Hi: least}, {Hi: least, Lo: math.MaxUint64}, {Hi: -2, Lo: 5}, {Hi: -1}, {Hi: -1, Lo: 1 << 63}, {Hi: -1, Lo: math.MaxUint64},
		{}, {Lo: 1}, {Lo: 1<<63 - 1}, {Lo: 1 << 63}, {Lo: math.MaxUint64}, {Hi: 1}, {Hi: 1, Lo: 1}, {Hi: most, Lo: math.MaxUint64},
	}
	for i, w := range order {
		for j, v := range order {
			want := 0
			if i < j {
				want = -1
			} else if i > j {
				want = 1
			}
			if n := w.Cmp(v); n != want {
				t.Errorf("%v.Cmp(%v) is %d, not %d", w, v, n, want)
			}
		}
	}
}

// P1.6: comparison with exact arithmetic.
func TestWideExact(t *testing.T) {
	for _, w := range wides() {
		if n, want := w.Neg(), wrapped(new(big.Int).Neg(exact(w))); n != want {
			t.Errorf("%v.Neg() is %v, not %v", w, n, want)
		}
		for _, v := range wides() {
			if n, want := w.Plus(v), wrapped(new(big.Int).Add(exact(w), exact(v))); n != want {
				t.Errorf("%v.Plus(%v) is %v, not %v", w, v, n, want)
			}
			if n, want := w.Cmp(v), exact(w).Cmp(exact(v)); n != want {
				t.Errorf("%v.Cmp(%v) is %d, not %d", w, v, n, want)
			}
		}
	}
}

// P1.7: ordinary quotients and remainders, the limits of 64 bits, and both errors in their order.
func TestWideDivMod(t *testing.T) {
	for _, c := range []struct {
		w      num.Wide
		d      int64
		n, mod int64
		e      api.Errno
	}{
		{num.Wide{}, 7, 0, 0, api.OK},
		{num.Wide{Lo: 17}, 5, 3, 2, api.OK},
		{num.Wide{Lo: 15}, 5, 3, 0, api.OK},
		{num.Wide{Hi: -1, Lo: math.MaxUint64 - 16}, 5, -4, 3, api.OK},
		{num.Wide{Hi: -1, Lo: math.MaxUint64 - 14}, 5, -3, 0, api.OK},
		{num.Wide{Hi: -1, Lo: math.MaxUint64}, most, -1, most - 1, api.OK},
		{num.Wide{Hi: 1}, 3, 6148914691236517205, 1, api.OK},
		{num.Wide{Hi: 1}, 4, 1 << 62, 0, api.OK},
		{num.Wide{Hi: 1}, 2, 0, 0, api.ErrLarge},
		{num.Wide{Hi: 1}, 1, 0, 0, api.ErrLarge},
		{num.Wide{Hi: -1}, 2, least, 0, api.OK},
		{num.Wide{Lo: most}, 1, most, 0, api.OK},
		{num.Wide{Lo: 1 << 63}, 1, 0, 0, api.ErrLarge},
		{num.Wide{Hi: -1, Lo: 1 << 63}, 1, least, 0, api.OK},
		{num.Wide{Hi: -1, Lo: 1<<63 - 1}, 1, 0, 0, api.ErrLarge},
		{num.Wide{Hi: 1<<62 - 1, Lo: math.MaxUint64}, most, 0, 0, api.ErrLarge},
		{num.Wide{Hi: most, Lo: math.MaxUint64}, most, 0, 1, api.ErrLarge},
		{num.Wide{Hi: least}, most, 0, most - 2, api.ErrLarge},
		{num.Wide{Hi: most, Lo: math.MaxUint64}, 0, 0, 0, api.ErrArg},
		{num.Wide{Hi: least}, -1, 0, 0, api.ErrArg},
		{num.Wide{Lo: 5}, least, 0, 0, api.ErrArg},
	} {
		if n, e := c.w.Div(c.d); n != c.n || e != c.e {
			t.Errorf("%v.Div(%d): got %d, %d, want %d, %d", c.w, c.d, n, e, c.n, c.e)
		}
		if n := c.w.Mod(c.d); n != c.mod {
			t.Errorf("%v.Mod(%d) is %d, not %d", c.w, c.d, n, c.mod)
		}
	}
}

// P1.7: comparison with exact arithmetic.
func TestWideDivModExact(t *testing.T) {
	list := wides()
	for _, a := range edges() {
		for _, b := range edges() {
			list = append(list, num.Product(a, b))
		}
	}
	for _, w := range list {
		for _, d := range edges() {
			down, rest := new(big.Int), new(big.Int)
			if d >= 1 {
				down.DivMod(exact(w), big.NewInt(d), rest)
			}
			want, err := quotient(d, down)
			if n, e := w.Div(d); n != want || e != err {
				t.Fatalf("%v.Div(%d): got %d, %d, want %d, %d", w, d, n, e, want, err)
			}
			if n := w.Mod(d); n != rest.Int64() {
				t.Fatalf("%v.Mod(%d) is %d, not %d", w, d, n, rest)
			}
		}
	}
}
