package prop_test

import (
	"fmt"
	"regexp"
	"slices"
	"strconv"
	"strings"
	"testing"

	"spyglass/api"
	"spyglass/prop"
)

// P12.5: the example of chapter 12, the smallest programmes, and requests with and without a gap.
func TestText(t *testing.T) {
	p := programme{
		Proposals: []api.Proposal{{Name: "deep", Share: 3}},
		Requests:  []request{{ID: 7, At: at(1, 0, 0), Len: 2, Visits: 1, Height: 5, Moon: 9, Weight: 4}},
	}
	for _, c := range []struct {
		p    programme
		want string
	}{
		{p, "proposal deep share 3\nrequest 7 for deep at 1 0 0 len 2 visits 1 height 5 moon 9 cloud 0 weight 4\n"},
		{programme{}, ""},
		{programme{Proposals: []api.Proposal{{Name: "z-9", Share: 100}, {Name: "a", Share: 1}}}, "proposal z-9 share 100\nproposal a share 1\n"},
		{sample(), "proposal deep share 3\nproposal wide share 1\nproposal x-0 share 100\n" +
			"request 7 for deep at 1 -2 3 len 2 visits 1 height 5 moon -9 cloud 3 weight 4\n" +
			"request 9 for wide at -5 0 12 len 1 visits 3 gap 2 10 height -1 moon 77 cloud 2 weight 1\n" +
			"request 1 for x-0 at -5 0 12 len 1 visits 2 gap 2 10 height -1 moon 77 cloud 2 weight 1\n"},
	} {
		if s, e := prop.Text(c.p); s != c.want || e != api.OK {
			t.Errorf("Text(%v) is %q, %d", c.p, s, e)
		}
	}
}

// printed returns the text of a valid programme by P12.5.
func printed(p programme) string {
	text := ""
	for _, q := range p.Proposals {
		text += fmt.Sprintf("proposal %s share %d\n", q.Name, q.Share)
	}
	for _, r := range p.Requests {
		gap := ""
		if r.Visits != 1 {
			gap = fmt.Sprintf("gap %d %d ", r.Least, r.Most)
		}
		text += fmt.Sprintf("request %d for %s at %d %d %d len %d visits %d %sheight %d moon %d cloud %d weight %d\n", r.ID, p.Proposals[r.Proposal].Name, r.At.X, r.At.Y, r.At.Z, r.Len, r.Visits, gap, r.Height, r.Moon, r.Cloud, r.Weight)
	}
	return text
}

// P12.3, P12.5: the texts of programmes of every sort; none is too long.
func TestTextByRule(t *testing.T) {
	for _, p := range programmes() {
		if s, e := prop.Text(p); s != printed(p) || e != api.OK || len(s) > 4000 {
			t.Errorf("Text(%v) is %q, %d", p, s, e)
		}
	}
}

// P12.5: a programme that is not valid has no text, but the error of Check.
func TestNoText(t *testing.T) {
	for _, f := range programmeFaults() {
		p := sample()
		f.make(&p)
		if s, e := prop.Text(p); s != "" || e != f.want {
			t.Errorf("Text(%v) is %q, %d, not %d", p, s, e, f.want)
		}
	}
}

// P12.6: numerals and their numbers.
func TestNumber(t *testing.T) {
	for s, want := range map[string]int64{
		"0": 0, "1": 1, "-1": -1, "9": 9, "10": 10, "-10": -10, "-120": -120, "1000000": 1000000, "2147483648": 1 << 31, "-2147483649": -1<<31 - 1, "4294967296": 1 << 32,
		"1234567890": 1234567890, "-1234567890": -1234567890, "9999999999": 9999999999, "-9999999999": -9999999999, "1000000000": 1000000000, "9876543210": 9876543210,
	} {
		if n, ok := prop.Number(s); n != want || !ok {
			t.Errorf("Number(%q) is %d, %v", s, n, ok)
		}
	}
	for i := int64(-2000); i <= 2000; i++ {
		for _, want := range []int64{i, i * 4999999, i + i*i*999} {
			if n, ok := prop.Number(strconv.FormatInt(want, 10)); n != want || !ok {
				t.Errorf("Number of %d is %d, %v", want, n, ok)
			}
		}
	}
}

// P12.6: what is no numeral.
func TestNoNumber(t *testing.T) {
	for _, s := range []string{
		"", "-", "-0", "00", "01", "-01", "-00", "007", "0000000000", "0123456789", "12345678901", "-12345678901", "10000000000", "99999999999", "9223372036854775807", "18446744073709551616",
		"+1", "+0", "--1", "-+1", "1-", "1-1", "1a", "a1", "x", "0x1", "0b1", "0o7", "1_0", "1_000", "1e3", "1.0", "1.", ".5", "1,0", " 1", "1 ", "- 1", "1 2", "1\n", "\t1", "1\x00", "\x001", "\xff", "١", "１", "²", "−1",
		strings.Repeat("1", 1000), strings.Repeat("-", 5),
	} {
		if n, ok := prop.Number(s); n != 0 || ok {
			t.Errorf("Number(%q) is %d, %v", s, n, ok)
		}
	}
}

// P12.6: texts with any byte at any place, compared with a pattern.
func TestNumberBytes(t *testing.T) {
	pattern := regexp.MustCompile(`^(0|-?[1-9][0-9]{0,9})$`)
	for _, s := range []string{"7", "-7", "10", "-10", "120", "-1234567890", "9876543210"} {
		for i := range s {
			for b := range 256 {
				x := s[:i] + string([]byte{byte(b)}) + s[i+1:]
				for _, x := range []string{x, x + "0", "-" + x, x[1:]} {
					want, err := strconv.ParseInt(x, 10, 64)
					is := pattern.MatchString(x) && err == nil
					if !is {
						want = 0
					}
					if n, ok := prop.Number(x); n != want || ok != is {
						t.Errorf("Number(%q) is %d, %v", x, n, ok)
					}
				}
			}
		}
	}
}

// P12.6: words are split at spaces and at nothing else.
func TestWords(t *testing.T) {
	for _, c := range []struct {
		s    string
		want []string
	}{
		{"", nil}, {" ", nil}, {"     ", nil}, {"a", []string{"a"}}, {" a", []string{"a"}}, {"a ", []string{"a"}}, {"   ab   ", []string{"ab"}}, {"a b", []string{"a", "b"}}, {"a  b   c    ", []string{"a", "b", "c"}}, {"  a a a", []string{"a", "a", "a"}},
		{"a\tb", []string{"a\tb"}}, {"\t", []string{"\t"}}, {" \t ", []string{"\t"}}, {"a\nb c", []string{"a\nb", "c"}}, {"a\r", []string{"a\r"}}, {"a\x00b\v\f", []string{"a\x00b\v\f"}}, {"a\u00a0b\u2003c\u3000\u0085", []string{"a\u00a0b\u2003c\u3000\u0085"}},
		{"\xff \xa0\x20\x80", []string{"\xff", "\xa0", "\x80"}}, {"ä  日本", []string{"ä", "日本"}}, {"# a", []string{"#", "a"}}, {"#a b", []string{"#a", "b"}}, {"proposal   deep share 3", []string{"proposal", "deep", "share", "3"}},
	} {
		if l := prop.Words(c.s); !slices.Equal(l, c.want) {
			t.Errorf("Words(%q) is %q", c.s, l)
		}
	}
}

// P12.6: the words of texts without structure, compared with the parts between single spaces.
func TestWordsByParts(t *testing.T) {
	for i := range uint64(2000) {
		text := make([]byte, chance(i, 40))
		for k := range text {
			text[k] = "   ab\t\n\xff"[chance(i*64+uint64(k), 8)]
		}
		s := string(text)
		want := slices.DeleteFunc(strings.Split(s, " "), func(w string) bool { return w == "" })
		if l := prop.Words(s); !slices.Equal(l, want) {
			t.Errorf("Words(%q) is %q", s, l)
		}
	}
}
