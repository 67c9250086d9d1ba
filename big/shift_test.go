package big_test

import (
	exact "math/big"
	"testing"

	"spyglass/api"
	"spyglass/big"
)

// P4.4: shifts in both directions, the rounding of negative numbers, and both errors in their order.
func TestShift(t *testing.T) {
	for _, c := range []struct {
		a    string
		k    int
		want string
		e    api.Errno
	}{
		{"5", 0, "5", api.OK},
		{"-18446744073709551617", 0, "-18446744073709551617", api.OK},
		{"5", 1, "10", api.OK},
		{"-5", 1, "-10", api.OK},
		{"5", -1, "2", api.OK},
		{"-5", -1, "-3", api.OK},
		{"-4", -1, "-2", api.OK},
		{"-4", -2, "-1", api.OK},
		{"-4", -3, "-1", api.OK},
		{"4", -3, "0", api.OK},
		{"1", -1, "0", api.OK},
		{"-1", -1, "-1", api.OK},
		{"1", -100, "0", api.OK},
		{"-1", -100, "-1", api.OK},
		{"-1", -big.MaxBits, "-1", api.OK},
		{"1", -big.MaxBits, "0", api.OK},
		{"0", -5, "0", api.OK},
		{"0", 5, "0", api.OK},
		{"1", 62, "4611686018427387904", api.OK},
		{"1", 63, "9223372036854775808", api.OK},
		{"-1", 63, "-9223372036854775808", api.OK},
		{"1", 64, "18446744073709551616", api.OK},
		{"3", 64, "55340232221128654848", api.OK},
		{"18446744073709551616", -64, "1", api.OK},
		{"-18446744073709551616", -64, "-1", api.OK},
		{"-18446744073709551617", -64, "-2", api.OK},
		{"-18446744073709551615", -64, "-1", api.OK},
		{"18446744073709551615", -64, "0", api.OK},
		{"-340282366920938463463374607431768211457", -128, "-2", api.OK},
		{"-340282366920938463463374607431768211456", -127, "-2", api.OK},
		{"-340282366920938463463374607431768211456", -1, "-170141183460469231731687303715884105728", api.OK},
		{"1", big.MaxBits, "0", api.ErrLarge},
		{"-1", big.MaxBits, "0", api.ErrLarge},
		{"0", big.MaxBits, "0", api.OK},
		{"2", big.MaxBits - 1, "0", api.ErrLarge},
		{"-2", big.MaxBits - 1, "0", api.ErrLarge},
		{"1", big.MaxBits + 1, "0", api.ErrRange},
		{"0", big.MaxBits + 1, "0", api.ErrRange},
		{"1", -big.MaxBits - 1, "0", api.ErrRange},
		{"-1", -big.MaxBits - 1, "0", api.ErrRange},
		{"0", -big.MaxBits - 1, "0", api.ErrRange},
		{"7", least, "0", api.ErrRange},
		{"7", most, "0", api.ErrRange},
	} {
		if x, e := big.Shift(of(c.a), c.k); big.Text(x) != c.want || e != c.e {
			t.Errorf("Shift(%s, %d): got %s, %d, want %s, %d", c.a, c.k, big.Text(x), e, c.want, c.e)
		}
	}
}

// shifted returns n * 2^k, rounded down, and the error that Shift should return.
func shifted(n *exact.Int, k int) (*exact.Int, api.Errno) {
	if k < 0 {
		// Rsh of math/big rounds down.
		return new(exact.Int).Rsh(n, uint(-k)), api.OK
	}
	return limited(new(exact.Int).Lsh(n, uint(k)))
}

// P4.4: comparison with exact arithmetic.
func TestShiftExact(t *testing.T) {
	for _, n := range append(edges(), long()...) {
		a := from(n)
		for _, k := range []int{0, 1, 2, 31, 62, 63, 64, 65, 100, 127, 128, 129, 200, 4999, 5000, 5001} {
			for _, by := range []int{k, -k} {
				want, err := shifted(n, by)
				if x, e := big.Shift(a, by); !same(x, want) || e != err {
					t.Fatalf("Shift(%v, %d): got %s, %d", n, by, big.Text(x), e)
				}
			}
		}
	}
}

// P4.4: shifts to the limit and beyond it, and of the longest numbers.
func TestShiftLong(t *testing.T) {
	for _, n := range []*exact.Int{exact.NewInt(1), exact.NewInt(-1), exact.NewInt(7), power(64), power(big.MaxBits - 1), near(big.MaxBits, -1), opposite(near(big.MaxBits, -1), true), opposite(power(big.MaxBits-1), true)} {
		for _, k := range []int{big.MaxBits - n.BitLen(), big.MaxBits - n.BitLen() + 1, big.MaxBits, 0, -1, 1 - n.BitLen(), -n.BitLen(), -n.BitLen() - 1, -big.MaxBits} {
			if k < -big.MaxBits {
				continue
			}
			want, err := shifted(n, k)
			if x, e := big.Shift(from(n), k); !same(x, want) || e != err {
				t.Errorf("a number of %d bits, shifted by %d: %d bits, error %d", n.BitLen(), k, big.Bits(x), e)
			}
		}
	}
}

// P4.5: squares and their neighbours, and negative numbers.
func TestSqrt(t *testing.T) {
	for _, c := range [][2]string{
		{"0", "0"}, {"1", "1"}, {"2", "1"}, {"3", "1"}, {"4", "2"}, {"8", "2"}, {"9", "3"}, {"15", "3"}, {"16", "4"}, {"99", "9"}, {"100", "10"},
		{"9223372036854775807", "3037000499"}, {"9223372036854775808", "3037000499"}, {"9223372037000250000", "3037000500"}, {"9223372037000249999", "3037000499"},
		{"18446744073709551615", "4294967295"}, {"18446744073709551616", "4294967296"}, {"18446744065119617025", "4294967295"}, {"18446744065119617024", "4294967294"},
		{"10000000000000000000000000000000000000000", "100000000000000000000"}, {"9999999999999999999999999999999999999999", "99999999999999999999"},
		{"340282366920938463463374607431768211455", "18446744073709551615"}, {"340282366920938463463374607431768211456", "18446744073709551616"},
	} {
		if x, e := big.Sqrt(of(c[0])); big.Text(x) != c[1] || e != api.OK {
			t.Errorf("Sqrt(%s): got %s, %d", c[0], big.Text(x), e)
		}
	}
	for _, s := range []string{"-1", "-4", "-9223372036854775808", "-18446744073709551616"} {
		if x, e := big.Sqrt(of(s)); x != (big.Int{}) || e != api.ErrRange {
			t.Errorf("Sqrt(%s): got %s, %d", s, big.Text(x), e)
		}
	}
	if x, e := big.Sqrt(big.Int{}); x != (big.Int{}) || e != api.OK {
		t.Errorf("Sqrt of the zero value: got %s, %d", big.Text(x), e)
	}
}

// root compares Sqrt with exact arithmetic.
func root(t *testing.T, n *exact.Int) {
	t.Helper()
	want, err := new(exact.Int), api.ErrRange
	if n.Sign() >= 0 {
		want, err = want.Sqrt(n), api.OK
	}
	if x, e := big.Sqrt(from(n)); !same(x, want) || e != err {
		t.Fatalf("Sqrt(%v): got %s, %d", n, big.Text(x), e)
	}
}

// P4.5: all small numbers, squares and their neighbours of all sizes, and comparison with exact arithmetic.
func TestSqrtExact(t *testing.T) {
	for n := range int64(2000) {
		root(t, exact.NewInt(n))
	}
	for _, n := range append(append(edges(), long()...), patterns(3)...) {
		root(t, n)
		square := new(exact.Int).Mul(n, n)
		for d := int64(-1); d <= 1; d++ {
			root(t, new(exact.Int).Add(square, exact.NewInt(d)))
		}
	}
	for _, n := range []*exact.Int{power(big.MaxBits - 1), near(big.MaxBits, -1), near(big.MaxBits-2, 0), near(big.MaxBits-2, -1), chance(7, big.MaxBits), chance(7, big.MaxBits-1)} {
		root(t, n)
	}
	// The greatest square, and the number before it.
	square := near(big.MaxBits/2, -1)
	square.Mul(square, square)
	root(t, square)
	root(t, new(exact.Int).Sub(square, exact.NewInt(1)))
}
