package big_test

import (
	exact "math/big"
	"regexp"
	"strings"
	"testing"

	"spyglass/api"
	"spyglass/big"
)

// P4.6: small numbers, zeros within a number, and the borders of groups of digits and of words.
func TestText(t *testing.T) {
	for _, c := range []struct {
		n    int64
		want string
	}{
		{0, "0"}, {7, "7"}, {-7, "-7"}, {10, "10"}, {-100, "-100"}, {most, "9223372036854775807"}, {least, "-9223372036854775808"},
	} {
		if s := big.Text(big.Of(c.n)); s != c.want {
			t.Errorf("Text of %d is %q", c.n, s)
		}
	}
	// 10^n, its neighbours and 10^n + 10^m, computed without Read.
	for n, unit := 0, exact.NewInt(1); n <= 80; n++ {
		for d := int64(-1); d <= 1; d++ {
			text(t, new(exact.Int).Add(unit, exact.NewInt(d)))
		}
		for m := exact.NewInt(1); m.Cmp(unit) < 0; m = new(exact.Int).Mul(m, exact.NewInt(10)) {
			text(t, new(exact.Int).Add(unit, m))
		}
		unit = new(exact.Int).Mul(unit, exact.NewInt(10))
	}
}

// built returns an exact number as an Int, made without Read from 32 bits after the other.
func built(n *exact.Int) big.Int {
	var a big.Int
	for k := (n.BitLen()+31)/32 - 1; k >= 0; k-- {
		part := new(exact.Int).Rsh(new(exact.Int).Abs(n), uint(32*k))
		part.And(part, near(32, -1))
		a, _ = big.Shift(a, 32)
		a, _ = big.Add(a, big.Of(part.Int64()))
	}
	if n.Sign() < 0 {
		return big.Neg(a)
	}
	return a
}

// text compares Text and Read for n and -n with exact arithmetic.
func text(t *testing.T, n *exact.Int) {
	t.Helper()
	for _, n := range []*exact.Int{n, new(exact.Int).Neg(n)} {
		a, want := built(n), n.String()
		if s := big.Text(a); s != want {
			t.Fatalf("Text is %q, not %q", s, want)
		}
		if b, e := big.Read(want); big.Cmp(a, b) != 0 || e != api.OK {
			t.Fatalf("Read(%q): got %q, %d", want, big.Text(b), e)
		}
	}
}

// P4.6: comparison with exact arithmetic; what Text returns, Read reads.
func TestTextExact(t *testing.T) {
	for _, list := range [][]*exact.Int{edges(), patterns(3), long(), top()[:3]} {
		for _, n := range list {
			text(t, n)
		}
	}
}

// P4.6: texts of each form, and the syntax errors.
func TestRead(t *testing.T) {
	for _, s := range []string{
		"", "-", "--", "+", "+1", "--1", "-+1", "1-", "-0", "00", "01", "-01", "-00", "0000000000000000000000000", "-0000000000000000000000001",
		" ", " 1", "1 ", "- 1", "1 2", "1\n", "\t1", "1\x00", "\x00", "x", "1x", "x1", "0x1", "1e3", "1.5", "1.", "1_000", "1,000", "1/2", "/", ":", "1:", "1/", "0-", "0 ",
		"\u0663", "1\uff12", "\u22121", "\xff", "1\xb2",
		"123456789012345678901234567890x", "x123456789012345678901234567890", "1234567890123456789x123456789012345678", "1234567890123456789-",
		"-123456789012345678901234567890-", "1234567890123456789\xb1",
	} {
		if x, e := big.Read(s); x != (big.Int{}) || e != api.ErrSyntax {
			t.Errorf("Read(%q): got %s, %d", s, big.Text(x), e)
		}
	}
	for _, s := range []string{"0", "1", "-1", "9", "-9", "10", "-10", "9223372036854775807", "-9223372036854775808", "9223372036854775808", "100000000000000000000000000000000000000000000000000", "-98765432109876543210987654321098765432109876543210"} {
		if x, e := big.Read(s); big.Text(x) != s || e != api.OK {
			t.Errorf("Read(%q): got %s, %d", s, big.Text(x), e)
		}
	}
}

// texts calls f with all texts of at most length bytes of an alphabet.
func texts(alphabet string, length int, f func(s string)) {
	f("")
	if length == 0 {
		return
	}
	for _, c := range alphabet {
		texts(alphabet, length-1, func(s string) { f(string(c) + s) })
	}
}

// P4.6: all short texts, alone and behind many digits: those of the promised form are read, and Text returns them again.
func TestReadAll(t *testing.T) {
	form := regexp.MustCompile(`^(0|-?[1-9][0-9]*)\z`)
	texts("-+019:/ ", 4, func(s string) {
		for _, s := range []string{s, s + "1234567890123456789", "123456789012345678" + s, "-123456789012345678" + s} {
			want, err := "0", api.ErrSyntax
			if form.MatchString(s) {
				want, err = s, api.OK
			}
			if x, e := big.Read(s); big.Text(x) != want || e != err {
				t.Errorf("Read(%q): got %s, %d, want %s, %d", s, big.Text(x), e, want, err)
			}
		}
	})
}

// P4.6: the greatest and least number, those beyond them, very long texts, and ErrSyntax before ErrLarge.
func TestReadLarge(t *testing.T) {
	most, over := near(big.MaxBits, -1).String(), power(big.MaxBits).String()
	nines := strings.Repeat("9", 10_000_000)
	for i, c := range []struct {
		s string
		e api.Errno
	}{
		{most, api.OK},
		{"-" + most, api.OK},
		{over, api.ErrLarge},
		{"-" + over, api.ErrLarge},
		{most + "0", api.ErrLarge},
		{"1" + strings.Repeat("0", 39456), api.OK},
		{"1" + strings.Repeat("0", 39457), api.ErrLarge},
		{"4" + strings.Repeat("0", 39456), api.OK},
		{"5" + strings.Repeat("0", 39456), api.ErrLarge},
		{nines, api.ErrLarge},
		{"-" + nines, api.ErrLarge},
		{nines + "x", api.ErrSyntax},
		{"-" + nines + "-", api.ErrSyntax},
		{"0" + nines, api.ErrSyntax},
		{"-0" + nines, api.ErrSyntax},
	} {
		want := "0"
		if c.e == api.OK {
			want = c.s
		}
		if x, e := big.Read(c.s); big.Text(x) != want || e != c.e {
			t.Errorf("case %d: error %d, not %d", i, e, c.e)
		}
	}
}
