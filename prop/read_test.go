package prop_test

import (
	"fmt"
	"regexp"
	"slices"
	"strconv"
	"strings"
	"testing"

	"spyglass/api"
	"spyglass/prop"
)

// Lines that are read without an error, one after the other.
const (
	deep  = "proposal deep share 3"
	wide  = "proposal wide share 1"
	once  = "request 7 for deep at 1 0 0 len 2 visits 1 height 5 moon 9 cloud 0 weight 4"
	twice = "request 9 for wide at -5 0 12 len 1 visits 2 gap 2 10 height -1 moon 0 cloud 2 weight 1"
)

// both returns the programme of the four lines.
func both() programme {
	return programme{
		Proposals: []api.Proposal{{Name: "deep", Share: 3}, {Name: "wide", Share: 1}},
		Requests: []request{
			{ID: 7, At: at(1, 0, 0), Len: 2, Visits: 1, Height: 5, Moon: 9, Weight: 4},
			{ID: 9, Proposal: 1, At: at(-5, 0, 12), Len: 1, Visits: 2, Least: 2, Most: 10, Height: -1, Cloud: 2, Weight: 1},
		},
	}
}

// lines returns a text of lines, of which the last one is ended too.
func lines(list ...string) string { return strings.Join(list, "\n") + "\n" }

// P12.6: lines in any order that has proposals before their requests, with spaces, empty lines and comments; the last line needs no line feed.
func TestRead(t *testing.T) {
	swapped := both()
	slices.Reverse(swapped.Requests)
	for _, c := range []struct {
		s    string
		want programme
	}{
		{lines(deep, wide, once, twice), both()}, {deep + "\n" + wide + "\n" + once + "\n" + twice, both()}, {lines(deep, once, wide, twice), both()}, {lines(deep, wide, twice, once), swapped},
		{lines("", " ", "#", "# proposal deep share 3", "   #"+wide, "#"+deep, "######", "# \xff\t\x00", "    ", deep, "", "#\r", wide, once, " # "+twice, twice, "", "", "# end"), both()},
		{lines("  proposal   deep share     3", wide+"      ", strings.ReplaceAll(once, " ", "   "), "     "+strings.ReplaceAll(twice, " ", "  ")+" "), both()},
		{"", programme{}}, {"\n", programme{}}, {"\n\n\n", programme{}}, {"#", programme{}}, {"#\n \n", programme{}}, {"     ", programme{}}, {strings.Repeat("\n", 4000), programme{}}, {strings.Repeat("#", 4000), programme{}},
		{deep, programme{Proposals: []api.Proposal{{Name: "deep", Share: 3}}}}, {"\n" + wide + "\n#", programme{Proposals: []api.Proposal{{Name: "wide", Share: 1}}}},
	} {
		if p, line, e := prop.Read(c.s); !same(p, c.want) || line != 0 || e != api.OK {
			t.Errorf("Read(%q) is %v, %d, %d", c.s, p, line, e)
		}
	}
}

// P12.6: every number of a line is read into its field.
func TestFields(t *testing.T) {
	p, line, e := prop.Read(lines(deep, "request 123456 for deep at -11 22 -33 len 4 visits 3 gap 55 60 height -77 moon 88 cloud 1 weight 99"))
	want := request{ID: 123456, At: at(-11, 22, -33), Len: 4, Visits: 3, Least: 55, Most: 60, Height: -77, Moon: 88, Cloud: 1, Weight: 99}
	if line != 0 || e != api.OK || len(p.Requests) != 1 || p.Requests[0] != want {
		t.Errorf("got %v, %d, %d", p, line, e)
	}
}

// P12.6: Read takes back Text, also without the last line feed and with more of them.
func TestReadBack(t *testing.T) {
	for _, p := range programmes() {
		s, _ := prop.Text(p)
		for _, s := range []string{s, strings.TrimSuffix(s, "\n"), "\n \n" + s + "\n", strings.ReplaceAll(s, "\n", "  \n#\n"), strings.ReplaceAll(s, " ", "  ")} {
			if q, line, e := prop.Read(s); len(s) > 4000 || !same(p, q) || line != 0 || e != api.OK {
				t.Errorf("Read(%q) is %v, %d, %d, not %v", s, q, line, e, p)
			}
		}
	}
}

// P12.6: texts up to the greatest length are read, and no longer ones, whatever is in them.
func TestLength(t *testing.T) {
	full := lines(deep, wide, once, twice)
	for _, fill := range []string{" ", "\n", "#"} {
		s := full + strings.Repeat(fill, 4000-len(full))
		if p, line, e := prop.Read(s); !same(p, both()) || line != 0 || e != api.OK {
			t.Errorf("of 4000 bytes: %v, %d, %d", p, line, e)
		}
		for _, s := range []string{s + " ", s + "\n", "propose\n" + s, strings.Repeat(s, 2), "\n" + s[:3999] + "ä"} {
			if p, line, e := prop.Read(s); !isNone(p) || line != 0 || e != api.ErrLarge {
				t.Errorf("of %d bytes: %v, %d, %d", len(s), p, line, e)
			}
		}
	}
	if p, line, e := prop.Read(strings.Repeat("\n", 3999) + "x"); !isNone(p) || line != 4000 || e != api.ErrSyntax {
		t.Errorf("an error in line 4000: %v, %d, %d", p, line, e)
	}
}

// testFault checks that the text of some lines has an error in a line.
func testFault(t *testing.T, line int, want api.Errno, list ...string) {
	t.Helper()
	// What follows the line does not count.
	for _, s := range []string{strings.Join(list, "\n"), lines(list...), lines(append(slices.Clip(list), "propose", deep, "proposal W share 0")...)} {
		if p, n, e := prop.Read(s); !isNone(p) || n != line || e != want {
			t.Errorf("Read(%q) is %v, %d, %d, not %d, %d", s, p, n, e, line, want)
		}
	}
}

// P12.6: lines of another form.
func TestSyntax(t *testing.T) {
	for _, s := range []string{
		"propose deep share 3", "proposals deep share 3", "Proposal deep share 3", "propose", "x", "deep", "\xff", "\t", "\r", "\x00", "\tproposal deep share 3", "proposal\tdeep share 3", "proposal# deep share 3", "-", "0", "REQUEST", "request7", "gap 1 2", "proposal#", "\u00a0", "proposalx",
		"proposal", "proposal deep", "proposal deep share", "proposal share 3", "proposal deep 3", "proposal deep 3 share", "proposal deep share 3 4", "proposal deep share 3 share 3", "proposal deep share 3 # comment", "proposal deep share 3 #", "proposal a deep share 3", "proposal deep Share 3", "proposal deep weight 3", "proposal deep share3", "proposal deep share three",
		"proposal deep share 03", "proposal deep share +3", "proposal deep share -0", "proposal deep share 3.", "proposal deep share 12345678901", "proposal deep share -", "proposal deep share 3\r", "proposal deep share 3\t", "proposal deep share \t3", "proposal deep share 0x3", "proposal deep share share", "proposal W share 00", "proposal W share",
		"request", "request 7", "request deep", "request 7 for", "request 7 for deep", "request 7 for deep at 1 0 0 len 2 visits 1", "request 7 for deep at 1 0 0 len 2 visits 1 height 5 moon 9 cloud 0", "request x for deep at 1 0 0 len 2 visits 1 height 5 moon 9 cloud 0 weight 4",
	} {
		testFault(t, 1, api.ErrSyntax, s)
		testFault(t, 4, api.ErrSyntax, deep, "", "# comment", s)
	}
}

// P12.6: requests in which a word is missing, different, superfluous, or no number.
func TestSyntaxOfRequests(t *testing.T) {
	for _, full := range []string{once, twice} {
		words := strings.Split(full, " ")
		for i, old := range words {
			for _, word := range []string{"", "x", "Len", "#", "00", "-0", "x7", "7x", "12345678901", old + " " + old, old + " 7", "7 " + old, old + "x", strings.ToUpper(old) + "_", "gap"} {
				comment, anyName := i == 0 && word == "#", i == 3 && word != "" && !strings.Contains(word, " ")
				if comment || anyName || word == old {
					continue
				}
				changed := slices.Clone(words)
				changed[i] = word
				testFault(t, 3, api.ErrSyntax, deep, wide, strings.Join(changed, " "))
			}
			testFault(t, 3, api.ErrSyntax, deep, wide, strings.Join(slices.Concat(words[:i], words[i+1:]), " "))
			if i > 0 {
				testFault(t, 3, api.ErrSyntax, deep, wide, strings.Join(words[:i], " "))
			}
		}
		testFault(t, 3, api.ErrSyntax, deep, wide, full+" 7")
		testFault(t, 3, api.ErrSyntax, deep, wide, full+" # comment")
	}
}

// P12.6: the words of a gap are there exactly if the number of visits is greater than 1, also if it is out of its range.
func TestGap(t *testing.T) {
	for visits, want := range map[string]api.Errno{"-9999999999": api.ErrRange, "-1": api.ErrRange, "0": api.ErrRange, "1": api.OK, "2": api.OK, "4": api.OK, "5": api.ErrRange, "9999999999": api.ErrRange} {
		without := strings.Replace(once, "visits 1", "visits "+visits, 1)
		with := strings.Replace(without, " height", " gap 2 10 height", 1)
		n, _ := strconv.Atoi(visits)
		right, wrong := without, with
		if n > 1 {
			right, wrong = with, without
		}
		testFault(t, 2, api.ErrSyntax, deep, wrong)
		if want != api.OK {
			testFault(t, 2, want, deep, right)
		} else if p, line, e := prop.Read(lines(deep, right)); len(p.Requests) != 1 || p.Requests[0].Visits != n || line != 0 || e != api.OK {
			t.Errorf("%q: got %v, %d, %d", right, p, line, e)
		}
	}
	for _, gap := range []string{"gap 2", "gap", "2 10", "gap 2 10 3", "gap 2 x", "gap x 10", "Gap 2 10", "gap 02 10", "gap 2 -0", "gap 2 10 gap 2 10"} {
		testFault(t, 3, api.ErrSyntax, deep, wide, strings.Replace(twice, "gap 2 10", gap, 1))
	}
}

// P12.6: after the form of a line, what was read so far is checked.
func TestChecked(t *testing.T) {
	other := strings.Replace(twice, "9 for", "8 for", 1)
	for _, c := range []struct {
		want api.Errno
		list []string
	}{
		{api.ErrName, []string{"proposal W share 1"}}, {api.ErrName, []string{"proposal share share 1", "proposal 3 share 1"}}, {api.ErrName, []string{"proposal abcdefghijklm share 1"}}, {api.ErrName, []string{"proposal # share 1"}}, {api.ErrName, []string{"proposal a\t share 1"}}, {api.ErrName, []string{"proposal W share 0"}},
		{api.ErrRange, []string{"proposal deep share 0"}}, {api.ErrRange, []string{deep, "proposal deep share 101"}}, {api.ErrRange, []string{"proposal deep share -1"}}, {api.ErrRange, []string{"proposal deep share 9999999999"}},
		{api.ErrTwice, []string{deep, deep}}, {api.ErrTwice, []string{deep, wide, "proposal deep share 5"}}, {api.ErrTwice, []string{deep, once, "#", "", deep}},
		{api.ErrNone, []string{once}}, {api.ErrNone, []string{wide, once}}, {api.ErrNone, []string{deep, once, twice}}, {api.ErrNone, []string{deep, strings.Replace(once, "for deep", "for for", 1)}}, {api.ErrNone, []string{deep, strings.Replace(once, "for deep", "for #", 1)}}, {api.ErrNone, []string{deep, strings.Replace(once, "for deep", "for W", 1)}}, {api.ErrNone, []string{deep, strings.Replace(once, "for deep", "for 7", 1)}}, {api.ErrNone, []string{deep, strings.Replace(once, "for deep", "for deep\r", 1)}}, {api.ErrNone, []string{deep, strings.Replace(once, "for deep", "for dee", 1)}}, {api.ErrNone, []string{"#" + deep, once}},
		{api.ErrRange, []string{deep, strings.Replace(once, "request 7", "request 0", 1)}}, {api.ErrRange, []string{deep, strings.Replace(once, "request 7", "request 1000000", 1)}}, {api.ErrRange, []string{strings.Replace(once, "request 7", "request -7", 1)}},
		{api.ErrForm, []string{deep, strings.Replace(once, "at 1", "at 0", 1)}}, {api.ErrForm, []string{deep, strings.Replace(once, "at 1 0 0", "at 1 0 -1048577", 1)}}, {api.ErrForm, []string{strings.Replace(once, "at 1", "at 0", 1)}},
		{api.ErrRange, []string{deep, strings.Replace(once, "len 2", "len 9", 1)}}, {api.ErrRange, []string{deep, wide, strings.Replace(twice, "gap 2 10", "gap 10 2", 1)}}, {api.ErrRange, []string{wide, strings.Replace(twice, "gap 2 10", "gap 0 0", 1)}}, {api.ErrRange, []string{wide, strings.Replace(twice, "gap 2 10", "gap 2 65", 1)}},
		{api.ErrRange, []string{deep, strings.Replace(once, "height 5", "height 1073741825", 1)}}, {api.ErrRange, []string{deep, strings.Replace(once, "moon 9", "moon -9999999999", 1)}}, {api.ErrRange, []string{deep, strings.Replace(once, "cloud 0", "cloud 5", 1)}}, {api.ErrRange, []string{deep, strings.Replace(once, "weight 4", "weight 0", 1)}},
		{api.ErrTwice, []string{deep, once, once}}, {api.ErrTwice, []string{deep, wide, once, twice, strings.Replace(once, "visits 1", "visits 3 gap 1 1", 1)}}, {api.ErrTwice, []string{deep, once, strings.Replace(once, "for deep", "for none", 1)}}, {api.ErrNone, []string{deep, once, other}},
	} {
		testFault(t, len(c.list), c.want, c.list...)
		testFault(t, len(c.list)+2, c.want, append([]string{"# first", "  "}, c.list...)...)
	}
}

// P12.6: a line more than a programme may have.
func TestTooMany(t *testing.T) {
	var list []string
	for i := range 6 {
		list = append(list, fmt.Sprintf("proposal p%d share %d", i, i+1))
	}
	testFault(t, 7, api.ErrLarge, append(slices.Clone(list), deep)...)
	testFault(t, 7, api.ErrLarge, append(slices.Clone(list), "proposal W share 0")...)
	for i := range 16 {
		list = append(list, fmt.Sprintf("request %d for p%d at 1 0 0 len 2 visits 1 height 5 moon 9 cloud 0 weight 4", i+1, 5-i%6))
	}
	if p, line, e := prop.Read(lines(list...)); len(p.Proposals) != 6 || len(p.Requests) != 16 || p.Requests[15].Proposal != 2 || line != 0 || e != api.OK {
		t.Errorf("got %v, %d, %d", p, line, e)
	}
	testFault(t, 23, api.ErrLarge, append(slices.Clone(list), once)...)
	testFault(t, 23, api.ErrLarge, append(slices.Clone(list), list[21])...)
	testFault(t, 23, api.ErrLarge, append(slices.Clone(list), deep)...)
	testFault(t, 23, api.ErrSyntax, append(slices.Clone(list), "request")...)
}

// form returns the pattern of a line; N stands for a numeral, and W for any word.
func form(s string) *regexp.Regexp {
	return regexp.MustCompile("^ *" + strings.NewReplacer(" ", " +", "N", "(0|-?[1-9][0-9]{0,9})", "W", "([^ ]+)").Replace(s) + " *$")
}

var (
	proposalForm = form("proposal W share N")
	requestForm  = form("request N for W at N N N len N visits N(?: gap N N)? height N moon N cloud N weight N")
)

// ruled returns the result of Read by P12.6, by means of patterns.
func ruled(s string) (programme, int, api.Errno) {
	if len(s) > 4000 {
		return programme{}, 0, api.ErrLarge
	}
	var p programme
	for i, text := range strings.Split(s, "\n") {
		bare := strings.TrimLeft(text, " ")
		if bare == "" || bare[0] == '#' {
			continue
		}
		e := api.ErrSyntax
		if m := proposalForm.FindStringSubmatch(text); m != nil {
			p.Proposals = append(p.Proposals, api.Proposal{Name: m[1], Share: int(value(m[2]))})
			e = prop.Check(p)
		} else if m := requestForm.FindStringSubmatch(text); m != nil && (m[8] != "") == (value(m[7]) > 1) {
			p.Requests = append(p.Requests, asked(p, m))
			e = prop.Check(p)
		}
		if e != api.OK {
			return programme{}, i + 1, e
		}
	}
	return p, 0, api.OK
}

// value returns the number of a numeral, or 0 for no numeral.
func value(s string) int64 {
	n, _ := strconv.ParseInt(s, 10, 64)
	return n
}

// asked returns the request of the parts of a line.
func asked(p programme, m []string) request {
	r := request{ID: int(value(m[1])), Proposal: -1, At: at(value(m[3]), value(m[4]), value(m[5])), Len: int(value(m[6])), Visits: int(value(m[7])), Least: int(value(m[8])), Most: int(value(m[9])), Height: api.Fix(value(m[10])), Moon: api.Fix(value(m[11])), Cloud: int(value(m[12])), Weight: int(value(m[13]))}
	for i, q := range p.Proposals {
		if q.Name == m[2] {
			r.Proposal = i
		}
	}
	return r
}

// P12.6: texts with any byte at any place, compared with patterns.
func TestReadBytes(t *testing.T) {
	text := lines(deep, once)
	for i := range text {
		for b := range 256 {
			x := string([]byte{byte(b)})
			for _, s := range []string{text[:i] + x + text[i+1:], text[:i] + x + text[i:]} {
				p, line, e := prop.Read(s)
				q, n, f := ruled(s)
				if !same(p, q) || line != n || e != f {
					t.Fatalf("Read(%q) is %v, %d, %d, not %v, %d, %d", s, p, line, e, q, n, f)
				}
			}
		}
	}
}

// disturbed returns a text with a change without structure: a word or a line is left out, repeated, exchanged or replaced.
func disturbed(s string, state uint64) string {
	draw := func(limit int) int {
		state++
		return int(chance(state<<20, int64(limit)))
	}
	sep := []string{" ", "\n"}[draw(2)]
	parts := strings.Split(s, sep)
	i, j := draw(len(parts)), draw(len(parts))
	switch draw(5) {
	case 0:
		parts = slices.Delete(parts, i, i+1)
	case 1:
		parts = slices.Insert(parts, i, parts[j])
	case 2:
		parts[i], parts[j] = parts[j], parts[i]
	case 3:
		words := []string{"", "#", "0", "1", "2", "-1", "-0", "00", "5", "64", "9999999999", "10000000000", "gap", "share", "proposal", "request", "a0", "x", "gap 1 2", "visits", "1073741825", "\t", "\n", "\n#", "  "}
		parts[i] = words[draw(len(words))]
	case 4:
		parts[i] += []string{" ", "\n", "0", "x", "\n\n", " 1", "\r"}[draw(7)]
	}
	return strings.Join(parts, sep)
}

// P12.6: texts with changes without structure, compared with patterns.
func TestReadByRule(t *testing.T) {
	count := map[api.Errno]int{}
	for i, p := range programmes() {
		text, _ := prop.Text(p)
		for k := range uint64(150) {
			s := disturbed(text, uint64(i)*1000+k*5)
			if k%3 == 0 {
				s = disturbed(s, uint64(i)*1000+k*5+7)
			}
			p, line, e := prop.Read(s)
			q, n, f := ruled(s)
			if !same(p, q) || line != n || e != f {
				t.Fatalf("Read(%q) is %v, %d, %d, not %v, %d, %d", s, p, line, e, q, n, f)
			}
			count[e]++
		}
	}
	for _, e := range []api.Errno{api.OK, api.ErrLarge, api.ErrForm, api.ErrRange, api.ErrSyntax, api.ErrName, api.ErrTwice, api.ErrNone} {
		if count[e] < 10 {
			t.Errorf("only %d texts have the result %d", count[e], e)
		}
	}
}
