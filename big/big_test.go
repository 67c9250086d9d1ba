package big_test

import (
	exact "math/big"
	"testing"

	"spyglass/api"
	"spyglass/big"
)

// P4.1: ordinary numbers, 0, and those just inside and outside of 64 bits.
func TestNumber(t *testing.T) {
	for _, c := range []struct {
		s     string
		n     int64
		small bool
		bits  int
		sign  int
	}{
		{"0", 0, true, 0, 0},
		{"1", 1, true, 1, 1},
		{"-1", -1, true, 1, -1},
		{"2", 2, true, 2, 1},
		{"7", 7, true, 3, 1},
		{"8", 8, true, 4, 1},
		{"-5", -5, true, 3, -1},
		{"-8", -8, true, 4, -1},
		{"4611686018427387904", 1 << 62, true, 63, 1},
		{"9223372036854775807", most, true, 63, 1},
		{"-9223372036854775807", -most, true, 63, -1},
		{"9223372036854775808", 0, false, 64, 1},
		{"-9223372036854775808", least, true, 64, -1},
		{"-9223372036854775809", 0, false, 64, -1},
		{"18446744073709551615", 0, false, 64, 1},
		{"-18446744073709551615", 0, false, 64, -1},
		{"18446744073709551616", 0, false, 65, 1},
		{"-18446744073709551616", 0, false, 65, -1},
		{"18446744073709551617", 0, false, 65, 1},
		{"340282366920938463463374607431768211455", 0, false, 128, 1},
		{"340282366920938463463374607431768211456", 0, false, 129, 1},
	} {
		a := of(c.s)
		if n, small := big.Small(a); n != c.n || small != c.small {
			t.Errorf("Small(%s): got %d, %v", c.s, n, small)
		}
		if big.Bits(a) != c.bits || big.Sign(a) != c.sign {
			t.Errorf("%s: %d bits, sign %d", c.s, big.Bits(a), big.Sign(a))
		}
		if c.small && (big.Text(big.Of(c.n)) != c.s || big.Cmp(big.Of(c.n), a) != 0) {
			t.Errorf("Of(%d) is %s", c.n, big.Text(big.Of(c.n)))
		}
	}
	if big.MaxBits != 131072 {
		t.Errorf("MaxBits is %d", big.MaxBits)
	}
}

// P4.1: the zero value is 0.
func TestZeroValue(t *testing.T) {
	var zero big.Int
	if n, small := big.Small(zero); n != 0 || !small || big.Bits(zero) != 0 || big.Sign(zero) != 0 || big.Text(zero) != "0" {
		t.Error("the zero value is not 0")
	}
	if big.Cmp(zero, big.Of(0)) != 0 || big.Cmp(zero, of("0")) != 0 || big.Cmp(zero, big.Of(1)) != -1 || big.Cmp(zero, big.Of(-1)) != 1 {
		t.Error("the zero value does not compare like 0")
	}
	if big.Sign(big.Neg(zero)) != 0 || big.Sign(big.Abs(zero)) != 0 {
		t.Error("Neg or Abs of the zero value")
	}
	a := of("36893488147419103234")
	if sum, e := big.Add(a, zero); big.Cmp(sum, a) != 0 || e != api.OK {
		t.Error("a sum with the zero value")
	}
	if rest, e := big.Sub(zero, a); big.Text(rest) != "-36893488147419103234" || e != api.OK {
		t.Error("a difference with the zero value")
	}
}

// P4.1: comparison with exact arithmetic.
func TestNumberExact(t *testing.T) {
	for _, n := range append(append(edges(), long()...), top()...) {
		a := from(n)
		want, fits := fitted(n)
		if x, small := big.Small(a); x != want || small != fits {
			t.Errorf("Small(%v): got %d, %v", n, x, small)
		}
		if big.Bits(a) != n.BitLen() || big.Sign(a) != n.Sign() {
			t.Errorf("%v: %d bits, sign %d", n, big.Bits(a), big.Sign(a))
		}
		if !same(big.Neg(a), new(exact.Int).Neg(n)) || !same(big.Abs(a), new(exact.Int).Abs(n)) {
			t.Errorf("Neg and Abs of %v are %s and %s", n, big.Text(big.Neg(a)), big.Text(big.Abs(a)))
		}
	}
}

// P4.1: numbers of all sizes and signs are in their order.
func TestCmp(t *testing.T) {
	for _, list := range [][]*exact.Int{edges(), long(), top()} {
		ints := all(list)
		again := all(list)
		for i, a := range ints {
			for j, b := range again {
				if got := big.Cmp(a, b); got != list[i].Cmp(list[j]) {
					t.Errorf("Cmp(%v, %v) is %d", list[i], list[j], got)
				}
			}
		}
	}
}

// P4.2: sums, differences and products across the borders of words, and results that vanish.
func TestAddSubMul(t *testing.T) {
	for _, c := range []struct{ a, b, sum, diff, product string }{
		{"2", "3", "5", "-1", "6"},
		{"-6", "7", "1", "-13", "-42"},
		{"-6", "-7", "-13", "1", "42"},
		{"0", "0", "0", "0", "0"},
		{"0", "-18446744073709551616", "-18446744073709551616", "18446744073709551616", "0"},
		{"9223372036854775807", "1", "9223372036854775808", "9223372036854775806", "9223372036854775807"},
		{"-9223372036854775808", "-1", "-9223372036854775809", "-9223372036854775807", "9223372036854775808"},
		{"-9223372036854775808", "-9223372036854775808", "-18446744073709551616", "0", "85070591730234615865843651857942052864"},
		{"18446744073709551615", "1", "18446744073709551616", "18446744073709551614", "18446744073709551615"},
		{"18446744073709551616", "-1", "18446744073709551615", "18446744073709551617", "-18446744073709551616"},
		{"-18446744073709551616", "18446744073709551615", "-1", "-36893488147419103231", "-340282366920938463444927863358058659840"},
		{"18446744073709551615", "18446744073709551615", "36893488147419103230", "0", "340282366920938463426481119284349108225"},
		{"9223372036854775809", "-1", "9223372036854775808", "9223372036854775810", "-9223372036854775809"},
		{"-9223372036854775809", "1", "-9223372036854775808", "-9223372036854775810", "-9223372036854775809"},
		{"340282366920938463463374607431768211456", "-340282366920938463463374607431768211456", "0", "680564733841876926926749214863536422912", "-115792089237316195423570985008687907853269984665640564039457584007913129639936"},
		{"4294967296", "4294967296", "8589934592", "0", "18446744073709551616"},
		{"3037000500", "3037000500", "6074001000", "0", "9223372037000250000"},
	} {
		a, b := of(c.a), of(c.b)
		if x, e := big.Add(a, b); big.Text(x) != c.sum || e != api.OK {
			t.Errorf("%s + %s: got %s, %d", c.a, c.b, big.Text(x), e)
		}
		if x, e := big.Sub(a, b); big.Text(x) != c.diff || e != api.OK {
			t.Errorf("%s - %s: got %s, %d", c.a, c.b, big.Text(x), e)
		}
		if x, e := big.Mul(a, b); big.Text(x) != c.product || e != api.OK {
			t.Errorf("%s * %s: got %s, %d", c.a, c.b, big.Text(x), e)
		}
	}
}

// operation is a function of two numbers and what it computes.
type operation struct {
	name string
	f    func(a, b big.Int) (big.Int, api.Errno)
	ref  func(z, a, b *exact.Int) *exact.Int
}

func operations() []operation {
	return []operation{
		{"Add", big.Add, (*exact.Int).Add},
		{"Sub", big.Sub, (*exact.Int).Sub},
		{"Mul", big.Mul, (*exact.Int).Mul},
	}
}

// P4.2: comparison with exact arithmetic.
func TestAddSubMulExact(t *testing.T) {
	for _, list := range [][]*exact.Int{edges(), patterns(3), long()} {
		if len(list) > 300 {
			list = append(list[:60:60], list[len(list)-60:]...)
		}
		ints := all(list)
		for _, f := range operations() {
			for i, a := range ints {
				for j, b := range ints {
					want := f.ref(new(exact.Int), list[i], list[j])
					if x, e := f.f(a, b); !same(x, want) || e != api.OK {
						t.Fatalf("%s(%v, %v): got %s, %d", f.name, list[i], list[j], big.Text(x), e)
					}
				}
			}
		}
	}
}

// P4.2: results with as many bits as are permitted, and with one more.
func TestLarge(t *testing.T) {
	const half = big.MaxBits / 2
	most, below := near(big.MaxBits, -1), near(big.MaxBits, -2)
	middle := power(big.MaxBits - 1)
	one, two, zero := exact.NewInt(1), exact.NewInt(2), exact.NewInt(0)
	for i, c := range []struct {
		f    operation
		a, b *exact.Int
		e    api.Errno
	}{
		{operations()[0], below, one, api.OK},
		{operations()[0], most, zero, api.OK},
		{operations()[0], most, one, api.ErrLarge},
		{operations()[0], one, most, api.ErrLarge},
		{operations()[0], middle, middle, api.ErrLarge},
		{operations()[0], middle, near(big.MaxBits-1, -1), api.OK},
		{operations()[0], most, most, api.ErrLarge},
		{operations()[1], zero, most, api.OK},
		{operations()[1], most, most, api.OK},
		{operations()[1], most, one, api.OK},
		{operations()[2], most, zero, api.OK},
		{operations()[2], zero, most, api.OK},
		{operations()[2], most, one, api.OK},
		{operations()[2], middle, two, api.ErrLarge},
		{operations()[2], most, two, api.ErrLarge},
		{operations()[2], most, most, api.ErrLarge},
		{operations()[2], power(half), power(half - 1), api.OK},
		{operations()[2], power(half), power(half), api.ErrLarge},
		// Both factors have the bits of which the product could have one more than is permitted.
		{operations()[2], near(half, -1), near(half, -1), api.OK},
		{operations()[2], near(half, -1), near(half+1, -1), api.ErrLarge},
		{operations()[2], near(half, -1), near(half, 1), api.OK},
		{operations()[2], near(half, 1), near(half-1, 1), api.OK},
		{operations()[2], power(64), power(big.MaxBits - 65), api.OK},
		{operations()[2], power(64), power(big.MaxBits - 64), api.ErrLarge},
	} {
		for _, minus := range [][2]bool{{false, false}, {true, true}} {
			a, b := opposite(c.a, minus[0]), opposite(c.b, minus[1])
			want, err := limited(c.f.ref(new(exact.Int), a, b))
			if err != c.e {
				t.Fatalf("case %d: %d should be %d", i, c.e, err)
			}
			if x, e := c.f.f(from(a), from(b)); !same(x, want) || e != c.e {
				t.Errorf("case %d: error %d", i, e)
			}
		}
	}
	// With the sign of one changed, sums become differences, and the limit is the same for negative results.
	if x, e := big.Sub(from(opposite(most, true)), big.Of(1)); x != (big.Int{}) || e != api.ErrLarge {
		t.Errorf("a difference that is too large: error %d", e)
	}
	if x, e := big.Sub(from(opposite(below, true)), big.Of(1)); !same(x, opposite(most, true)) || e != api.OK {
		t.Errorf("the least difference: error %d", e)
	}
	if x, e := big.Mul(from(middle), big.Of(-2)); x != (big.Int{}) || e != api.ErrLarge {
		t.Errorf("a negative product that is too large: error %d", e)
	}
}

// opposite returns -n if minus is set, otherwise n.
func opposite(n *exact.Int, minus bool) *exact.Int {
	if minus {
		return new(exact.Int).Neg(n)
	}
	return n
}
