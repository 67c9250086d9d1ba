package num_test

import (
	"math/big"
	"testing"

	"spyglass/api"
	"spyglass/num"
)

// P1.1: ordinary sums, differences and products, and those just inside and outside of 64 bits.
func TestAddSubMul(t *testing.T) {
	for i, c := range []struct {
		f    func(a, b int64) (int64, bool)
		a, b int64
		n    int64
		ok   bool
	}{
		{num.Add, 2, 3, 5, true},
		{num.Add, most, 0, most, true},
		{num.Add, most, 1, 0, false},
		{num.Add, 1, most, 0, false},
		{num.Add, least, -1, 0, false},
		{num.Add, least, least, 0, false},
		{num.Add, most, most, 0, false},
		{num.Add, most, least, -1, true},
		{num.Sub, 2, 3, -1, true},
		{num.Sub, least, 0, least, true},
		{num.Sub, least, 1, 0, false},
		{num.Sub, most, -1, 0, false},
		{num.Sub, 0, least, 0, false},
		{num.Sub, -1, least, most, true},
		{num.Sub, least, least, 0, true},
		{num.Mul, -6, 7, -42, true},
		{num.Mul, 1 << 31, 1 << 32, 0, false},
		{num.Mul, -1 << 31, 1 << 32, least, true},
		{num.Mul, least, -1, 0, false},
		{num.Mul, -1, least, 0, false},
		{num.Mul, least, 1, least, true},
		{num.Mul, 1 << 32, 1 << 32, 0, false},
		{num.Mul, least, least, 0, false},
		{num.Mul, most, 0, 0, true},
	} {
		if n, ok := c.f(c.a, c.b); n != c.n || ok != c.ok {
			t.Errorf("case %d: got %d, %v, want %d, %v", i, n, ok, c.n, c.ok)
		}
	}
}

// P1.1: comparison with exact arithmetic.
func TestAddSubMulExact(t *testing.T) {
	for i, f := range []func(a, b int64) (int64, bool){num.Add, num.Sub, num.Mul} {
		ref := []func(z, a, b *big.Int) *big.Int{(*big.Int).Add, (*big.Int).Sub, (*big.Int).Mul}[i]
		for _, a := range edges() {
			for _, b := range edges() {
				want, fits := fitted(ref(new(big.Int), big.NewInt(a), big.NewInt(b)))
				if n, ok := f(a, b); n != want || ok != fits {
					t.Errorf("function %d of %d, %d: got %d, %v, want %d, %v", i, a, b, n, ok, want, fits)
				}
			}
		}
	}
}

// P1.2: ordinary quotients, ties, limits, and divisors less than 1.
func TestQuotients(t *testing.T) {
	for _, c := range []struct{ a, b, floor, ceil, round, mod int64 }{
		{0, 5, 0, 0, 0, 0},
		{10, 5, 2, 2, 2, 0},
		{-10, 5, -2, -2, -2, 0},
		{11, 5, 2, 3, 2, 1},
		{14, 5, 2, 3, 3, 4},
		{-11, 5, -3, -2, -2, 4},
		{-14, 5, -3, -2, -3, 1},
		{5, 2, 2, 3, 3, 1},
		{-5, 2, -3, -2, -3, 1},
		{1, 2, 0, 1, 1, 1},
		{-1, 2, -1, 0, -1, 1},
		{1, 3, 0, 1, 0, 1},
		{-1, 3, -1, 0, 0, 2},
		{least, 1, least, least, least, 0},
		{most, 1, most, most, most, 0},
		{least, most, -2, -1, -1, most - 1},
		{most, most, 1, 1, 1, 0},
		{most - 1, most, 0, 1, 1, most - 1},
		{1 << 62, most, 0, 1, 1, 1 << 62},
		{1<<62 - 1, most, 0, 1, 0, 1<<62 - 1},
		{-1 << 62, most, -1, 0, -1, 1<<62 - 1},
		{7, 0, 0, 0, 0, 0},
		{7, -2, 0, 0, 0, 0},
		{least, -1, 0, 0, 0, 0},
		{least, least, 0, 0, 0, 0},
	} {
		down, up, near, rest := num.FloorDiv(c.a, c.b), num.CeilDiv(c.a, c.b), num.RoundDiv(c.a, c.b), num.Mod(c.a, c.b)
		if down != c.floor || up != c.ceil || near != c.round || rest != c.mod {
			t.Errorf("%d, %d: got %d, %d, %d, %d, want %v", c.a, c.b, down, up, near, rest, c)
		}
	}
}

// P1.2: comparison with exact arithmetic, near 0 and at the edges.
func TestQuotientsExact(t *testing.T) {
	list := edges()
	for n := int64(-20); n <= 20; n++ {
		list = append(list, n)
	}
	for _, a := range list {
		for _, b := range list {
			var down, up, near, rest int64
			if x, y := big.NewInt(a), big.NewInt(b); b >= 1 {
				down, up, near = floor(x, y).Int64(), ceil(x, y).Int64(), round(x, y).Int64()
				rest = new(big.Int).Mod(x, y).Int64()
			}
			if n := num.FloorDiv(a, b); n != down {
				t.Errorf("FloorDiv(%d, %d) is %d, not %d", a, b, n, down)
			}
			if n := num.CeilDiv(a, b); n != up {
				t.Errorf("CeilDiv(%d, %d) is %d, not %d", a, b, n, up)
			}
			if n := num.RoundDiv(a, b); n != near {
				t.Errorf("RoundDiv(%d, %d) is %d, not %d", a, b, n, near)
			}
			if n := num.Mod(a, b); n != rest {
				t.Errorf("Mod(%d, %d) is %d, not %d", a, b, n, rest)
			}
		}
	}
}

// P1.3: exact products, results at the limits of 64 bits, and both errors in their order.
func TestMulDiv(t *testing.T) {
	for _, c := range []struct {
		a, b, c, down, up int64
		e, f              api.Errno
	}{
		{7, 3, 2, 10, 11, api.OK, api.OK},
		{-7, 3, 2, -11, -10, api.OK, api.OK},
		{-7, -3, 2, 10, 11, api.OK, api.OK},
		{6, 4, 8, 3, 3, api.OK, api.OK},
		{0, least, 3, 0, 0, api.OK, api.OK},
		{1 << 62, 6, 8, 3 << 60, 3 << 60, api.OK, api.OK},
		{1 << 62, 6, 3, 0, 0, api.ErrLarge, api.ErrLarge},
		{most, most, most, most, most, api.OK, api.OK},
		{least, most, most, least, least, api.OK, api.OK},
		{least, 2, 2, least, least, api.OK, api.OK},
		{least, -2, 2, 0, 0, api.ErrLarge, api.ErrLarge},
		{least, least, 1, 0, 0, api.ErrLarge, api.ErrLarge},
		// (2^64 - 1) / 2 fits only if rounded down, (-2^64 - 1) / 2 only if rounded up.
		{3, 6148914691236517205, 2, most, 0, api.OK, api.ErrLarge},
		{-274177, 67280421310721, 2, 0, least, api.ErrLarge, api.OK},
		{-3, 6148914691236517205, 2, least, least + 1, api.OK, api.OK},
		{274177, 67280421310721, 2, 0, 0, api.ErrLarge, api.ErrLarge},
		{1, 1, 0, 0, 0, api.ErrArg, api.ErrArg},
		{1, 1, -1, 0, 0, api.ErrArg, api.ErrArg},
		{most, most, 0, 0, 0, api.ErrArg, api.ErrArg},
		{most, most, least, 0, 0, api.ErrArg, api.ErrArg},
	} {
		if n, e := num.MulDiv(c.a, c.b, c.c); n != c.down || e != c.e {
			t.Errorf("MulDiv(%d, %d, %d): got %d, %d, want %d, %d", c.a, c.b, c.c, n, e, c.down, c.e)
		}
		if n, e := num.MulDivUp(c.a, c.b, c.c); n != c.up || e != c.f {
			t.Errorf("MulDivUp(%d, %d, %d): got %d, %d, want %d, %d", c.a, c.b, c.c, n, e, c.up, c.f)
		}
	}
}

// quotient returns what MulDiv and MulDivUp return for the quotient n with divisor c.
func quotient(c int64, n *big.Int) (int64, api.Errno) {
	if c < 1 {
		return 0, api.ErrArg
	}
	if !n.IsInt64() {
		return 0, api.ErrLarge
	}
	return n.Int64(), api.OK
}

// P1.3: comparison with exact arithmetic.
func TestMulDivExact(t *testing.T) {
	for _, a := range edges() {
		for _, b := range edges() {
			product := new(big.Int).Mul(big.NewInt(a), big.NewInt(b))
			for _, c := range edges() {
				down, up := new(big.Int), new(big.Int)
				if c >= 1 {
					down, up = floor(product, big.NewInt(c)), ceil(product, big.NewInt(c))
				}
				want, err := quotient(c, down)
				if n, e := num.MulDiv(a, b, c); n != want || e != err {
					t.Fatalf("MulDiv(%d, %d, %d): got %d, %d, want %d, %d", a, b, c, n, e, want, err)
				}
				want, err = quotient(c, up)
				if n, e := num.MulDivUp(a, b, c); n != want || e != err {
					t.Fatalf("MulDivUp(%d, %d, %d): got %d, %d, want %d, %d", a, b, c, n, e, want, err)
				}
			}
		}
	}
}

// P1.4: ordinary divisors, zeros, negative numbers, and the divisor 2^63 that does not fit.
func TestGcd(t *testing.T) {
	for _, c := range [][3]int64{
		{12, 18, 6}, {18, 12, 6}, {-12, 18, 6}, {12, -18, 6}, {-12, -18, 6},
		{35, 64, 1}, {5, 5, 5}, {1, 1, 1}, {0, 0, 0}, {0, 7, 7}, {7, 0, 7}, {0, -7, 7}, {-7, 0, 7},
		{most, most, most}, {most, 0, most}, {0, most, most}, {most, least, 1},
		{least, 1 << 62, 1 << 62}, {least, 6, 2}, {6, least, 2}, {least, 1, 1}, {least, -1, 1},
		{least, 0, 0}, {0, least, 0}, {least, least, 0},
	} {
		if n := num.Gcd(c[0], c[1]); n != c[2] {
			t.Errorf("Gcd(%d, %d) is %d, not %d", c[0], c[1], n, c[2])
		}
	}
	for _, a := range edges() {
		for _, b := range edges() {
			x, y := new(big.Int).Abs(big.NewInt(a)), new(big.Int).Abs(big.NewInt(b))
			want, _ := fitted(new(big.Int).GCD(nil, nil, x, y))
			if n := num.Gcd(a, b); n != want {
				t.Errorf("Gcd(%d, %d) is %d, not %d", a, b, n, want)
			}
		}
	}
}

// P1.5: squares and their neighbours, products of two numbers, limits, and negative numbers.
func TestSqrt(t *testing.T) {
	for _, c := range [][2]int64{
		{0, 0}, {1, 1}, {2, 1}, {3, 1}, {4, 2}, {8, 2}, {9, 3}, {99, 9}, {100, 10},
		{1 << 62, 1 << 31}, {1<<62 - 1, 1<<31 - 1}, {most, 3037000499},
		{-1, 0}, {-4, 0}, {least, 0},
	} {
		if n := num.Sqrt(c[0]); n != c[1] {
			t.Errorf("Sqrt(%d) is %d, not %d", c[0], n, c[1])
		}
	}
	for _, c := range [][3]int64{
		{2, 3, 2}, {3, 3, 3}, {2, 8, 4}, {0, most, 0}, {most, 0, 0}, {most, most, most},
		{most, most - 1, most - 1}, {1 << 62, 1 << 62, 1 << 62}, {1 << 62, 2, 3037000499},
		{-3, 3, 0}, {3, -3, 0}, {-3, -3, 0}, {least, least, 0}, {least, 0, 0},
	} {
		if n := num.SqrtMul(c[0], c[1]); n != c[2] {
			t.Errorf("SqrtMul(%d, %d) is %d, not %d", c[0], c[1], n, c[2])
		}
	}
}

// P1.5: all small numbers, the neighbours of squares, and comparison with exact arithmetic.
func TestSqrtExact(t *testing.T) {
	for a, root := int64(0), int64(0); a <= 20_000; a++ {
		if (root+1)*(root+1) <= a {
			root++
		}
		if n := num.Sqrt(a); n != root {
			t.Errorf("Sqrt(%d) is %d, not %d", a, n, root)
		}
	}
	for _, s := range edges() {
		if s < 1 || s > 3037000499 {
			continue
		}
		if n := num.Sqrt(s * s); n != s {
			t.Errorf("Sqrt(%d) is %d, not %d", s*s, n, s)
		}
		if n := num.Sqrt(s*s - 1); n != s-1 {
			t.Errorf("Sqrt(%d) is %d, not %d", s*s-1, n, s-1)
		}
	}
	for _, a := range edges() {
		for _, b := range edges() {
			var want int64
			if a >= 0 && b >= 0 {
				product := new(big.Int).Mul(big.NewInt(a), big.NewInt(b))
				want = product.Sqrt(product).Int64()
			}
			if n := num.SqrtMul(a, b); n != want {
				t.Errorf("SqrtMul(%d, %d) is %d, not %d", a, b, n, want)
			}
		}
	}
}
