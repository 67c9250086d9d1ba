package big_test

import (
	exact "math/big"
	"testing"

	"spyglass/api"
	"spyglass/big"
)

// P4.3: quotients of all signs, without and with a rest, across the borders of words, and the division by 0.
func TestDivMod(t *testing.T) {
	for _, c := range []struct{ a, b, q, r string }{
		{"7", "2", "3", "1"},
		{"-7", "2", "-4", "1"},
		{"7", "-2", "-3", "1"},
		{"-7", "-2", "4", "1"},
		{"6", "3", "2", "0"},
		{"-6", "3", "-2", "0"},
		{"6", "-3", "-2", "0"},
		{"-6", "-3", "2", "0"},
		{"0", "5", "0", "0"},
		{"0", "-18446744073709551616", "0", "0"},
		{"1", "5", "0", "1"},
		{"-1", "5", "-1", "4"},
		{"1", "-5", "0", "1"},
		{"-1", "-5", "1", "4"},
		{"-9223372036854775808", "-1", "9223372036854775808", "0"},
		{"-9223372036854775808", "1", "-9223372036854775808", "0"},
		{"9223372036854775808", "-1", "-9223372036854775808", "0"},
		{"1", "18446744073709551616", "0", "1"},
		{"-1", "18446744073709551616", "-1", "18446744073709551615"},
		{"-1", "-18446744073709551616", "1", "18446744073709551615"},
		{"18446744073709551616", "18446744073709551616", "1", "0"},
		{"18446744073709551617", "-18446744073709551616", "-1", "1"},
		{"340282366920938463463374607431768211456", "18446744073709551615", "18446744073709551617", "1"},
		{"-340282366920938463463374607431768211456", "18446744073709551615", "-18446744073709551618", "18446744073709551614"},
		{"340282366920938463463374607431768211455", "18446744073709551616", "18446744073709551615", "18446744073709551615"},
		{"115792089237316195423570985008687907853269984665640564039457584007913129639936", "340282366920938463463374607431768211455", "340282366920938463463374607431768211457", "1"},
	} {
		if q, r, e := big.DivMod(of(c.a), of(c.b)); big.Text(q) != c.q || big.Text(r) != c.r || e != api.OK {
			t.Errorf("%s / %s: got %s, %s, %d", c.a, c.b, big.Text(q), big.Text(r), e)
		}
	}
	for _, a := range []big.Int{{}, big.Of(7), big.Of(-7), of("-18446744073709551616")} {
		if q, r, e := big.DivMod(a, big.Int{}); q != (big.Int{}) || r != (big.Int{}) || e != api.ErrArg {
			t.Errorf("%s / 0: got %s, %s, %d", big.Text(a), big.Text(q), big.Text(r), e)
		}
	}
}

// quotient compares DivMod with exact arithmetic.
func quotient(t *testing.T, m, n *exact.Int, a, b big.Int) {
	t.Helper()
	if n.Sign() == 0 {
		return
	}
	// DivMod of math/big has remainders that are not negative.
	down, rest := new(exact.Int).DivMod(m, n, new(exact.Int))
	if q, r, e := big.DivMod(a, b); !same(q, down) || !same(r, rest) || e != api.OK {
		t.Fatalf("%v / %v: got %s, %s, %d", m, n, big.Text(q), big.Text(r), e)
	}
}

// P4.3: comparison with exact arithmetic, for words that make the quotient's digits hard to guess and for numbers without structure.
func TestDivModExact(t *testing.T) {
	for _, list := range [][]*exact.Int{edges(), long()} {
		ints := all(list)
		for i, a := range ints {
			for j, b := range ints {
				quotient(t, list[i], list[j], a, b)
			}
		}
	}
	dividends, divisors := patterns(4), patterns(2)
	as, bs := all(dividends), all(divisors)
	for i, a := range as {
		for j, b := range bs {
			quotient(t, dividends[i], divisors[j], a, b)
		}
	}
}

// P4.3: numbers that are just below and at a multiple of the divisor, where a digit of the quotient is easily 1 too great.
func TestDivModNear(t *testing.T) {
	divisors := patterns(3)
	for i := 0; i < len(divisors); i += 3 {
		b := divisors[i]
		for _, q := range patterns(2) {
			for d := int64(-1); d <= 0; d++ {
				a := new(exact.Int).Mul(b, q)
				a.Add(a, exact.NewInt(d))
				quotient(t, a, b, from(a), from(b))
			}
		}
	}
}

// P4.3: quotients of the longest numbers.
func TestDivModLong(t *testing.T) {
	dividends := top()
	divisors := append([]*exact.Int{exact.NewInt(1), exact.NewInt(-1), exact.NewInt(3), power(64), near(big.MaxBits/2, -1), near(big.MaxBits/2, 1), chance(9, 100), chance(8, 70_000)}, dividends[:2]...)
	as, bs := all(dividends), all(divisors)
	for j, b := range bs {
		for i, a := range as {
			quotient(t, dividends[i], divisors[j], a, b)
		}
		quotient(t, divisors[j], dividends[3], b, as[3])
	}
}

// P4.3: ordinary divisors, zeros, negative numbers, and the divisor 2^63.
func TestGcd(t *testing.T) {
	for _, c := range [][3]string{
		{"12", "18", "6"}, {"18", "12", "6"}, {"-12", "18", "6"}, {"12", "-18", "6"}, {"-12", "-18", "6"},
		{"35", "64", "1"}, {"1", "1", "1"}, {"5", "5", "5"}, {"-5", "5", "5"},
		{"0", "0", "0"}, {"0", "-5", "5"}, {"-5", "0", "5"}, {"0", "1", "1"},
		{"-9223372036854775808", "0", "9223372036854775808"}, {"0", "-9223372036854775808", "9223372036854775808"},
		{"-9223372036854775808", "9223372036854775808", "9223372036854775808"},
		{"36893488147419103232", "6", "2"}, {"6", "36893488147419103232", "2"},
		{"0", "-36893488147419103232", "36893488147419103232"}, {"-36893488147419103232", "0", "36893488147419103232"},
		{"36893488147419103232", "36893488147419103232", "36893488147419103232"},
		{"-340282366920938463463374607431768211456", "55340232221128654848", "18446744073709551616"},
		{"340282366920938463463374607431768211456", "340282366920938463463374607431768211455", "1"},
	} {
		if d := big.Gcd(of(c[0]), of(c[1])); big.Text(d) != c[2] {
			t.Errorf("Gcd(%s, %s) is %s, not %s", c[0], c[1], big.Text(d), c[2])
		}
	}
}

// divisor compares Gcd with exact arithmetic.
func divisor(t *testing.T, m, n *exact.Int) {
	t.Helper()
	want := new(exact.Int).GCD(nil, nil, new(exact.Int).Abs(m), new(exact.Int).Abs(n))
	if d := big.Gcd(from(m), from(n)); !same(d, want) {
		t.Fatalf("Gcd(%v, %v) is %s, not %v", m, n, big.Text(d), want)
	}
}

// P4.3: comparison with exact arithmetic, with and without common factors.
func TestGcdExact(t *testing.T) {
	for _, list := range [][]*exact.Int{edges(), long()} {
		for _, m := range list {
			for _, n := range list {
				divisor(t, m, n)
			}
		}
	}
	list := patterns(3)
	for i := 0; i < len(list); i += 2 {
		for j := 0; j < len(list); j += 5 {
			divisor(t, list[i], list[j])
		}
	}
	for i := range uint64(300) {
		common := chance(i, 1+int(i*7%400))
		m, n := chance(i+1000, 60+int(i*13%700)), chance(i+2000, 60+int(i*29%700))
		divisor(t, m.Mul(m, common), n.Mul(n, common))
	}
}

// fibonacci returns the last two Fibonacci numbers with at most that many bits: all quotients of Euclid's algorithm are 1.
func fibonacci(bits int) (*exact.Int, *exact.Int) {
	a, b := exact.NewInt(1), exact.NewInt(1)
	for {
		next := new(exact.Int).Add(a, b)
		if next.BitLen() > bits {
			return a, b
		}
		a, b = b, next
	}
}

// P4.3: common divisors of Fibonacci numbers, of numbers of very different length, and of the longest ones.
func TestGcdLong(t *testing.T) {
	for _, bits := range []int{62, 63, 64, 65, 66, 126, 127, 128, 129, 130, 1000, 20_000} {
		a, b := fibonacci(bits)
		divisor(t, a, b)
		divisor(t, b, a)
		common := chance(uint64(bits), 90)
		divisor(t, new(exact.Int).Mul(a, common), new(exact.Int).Mul(b, common))
	}
	a, b := fibonacci(big.MaxBits)
	divisor(t, a, b)
	list := top()
	for _, n := range []*exact.Int{list[0], list[3], list[len(list)-2], exact.NewInt(6), power(100), power(big.MaxBits / 2), chance(4, 900), new(exact.Int)} {
		divisor(t, n, list[len(list)-1])
		divisor(t, list[2], n)
	}
	common := chance(3, 60_000)
	divisor(t, new(exact.Int).Mul(common, chance(1, 70_000)), new(exact.Int).Mul(common, chance(2, 71_000)))
}
