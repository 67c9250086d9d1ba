package prop_test

import (
	"reflect"
	"slices"
	"strings"
	"testing"

	"spyglass/api"
	"spyglass/horizon"
	"spyglass/prop"
	"spyglass/scale"
)

// outcome is all that the functions of the package return for some arguments.
type outcome struct {
	name, found, isNumber                               bool
	proposalErr, requestErr, checked, spinErr, nightErr api.Errno
	request                                             request
	slots, line                                         int
	text                                                string
	textErr, readErr                                    api.Errno
	read                                                programme
	number                                              int64
	words                                               []string
}

// all calls every function of the package.
func all(p programme, n api.Night, id int, s string) (o outcome) {
	o.name = prop.Name(s)
	for _, q := range p.Proposals {
		o.proposalErr = prop.CheckProposal(q)
	}
	for _, r := range p.Requests {
		o.requestErr, o.slots = prop.CheckRequest(r), prop.Slots(r)
	}
	o.checked, o.spinErr, o.nightErr = prop.Check(p), prop.CheckSpin(n.Spin), prop.CheckNight(n)
	o.request, o.found = prop.Find(p, id)
	o.text, o.textErr = prop.Text(p)
	o.read, o.line, o.readErr = prop.Read(s)
	o.number, o.isNumber = prop.Number(s)
	o.words = prop.Words(s)
	return o
}

// fault returns what is wrong with an outcome, whatever the other arguments are.
func (o outcome) fault(p programme, n api.Night, id int) string {
	valid := o.checked == api.OK
	switch {
	case valid && (o.proposalErr != api.OK || o.requestErr != api.OK || len(p.Proposals) > 6 || len(p.Requests) > 16):
		return "Check"
	case o.slots < 0 || o.slots > 32 || o.requestErr != api.OK && o.slots != 0:
		return "Slots"
	case o.spinErr == api.OK && scale.CheckRate(n.Spin) != api.OK || o.nightErr == api.OK && (o.spinErr != api.OK || horizon.CheckSite(n.Site) != api.OK || len(n.Cloud) != n.Slots):
		return "CheckSpin or CheckNight"
	case o.found != slices.ContainsFunc(p.Requests, func(r request) bool { return r.ID == id }) || o.found && o.request.ID != id || !o.found && o.request != request{}:
		return "Find"
	case o.textErr != o.checked || !valid && o.text != "" || len(o.text) > 4000:
		return "Text"
	case (o.readErr == api.OK) == (o.line > 0) && o.readErr != api.ErrLarge || o.readErr != api.OK && !isNone(o.read) || prop.Check(o.read) != api.OK:
		return "Read"
	case !o.isNumber && o.number != 0 || o.name && o.isNumber || o.isNumber && len(o.words) != 1:
		return "Number"
	case slices.ContainsFunc(o.words, func(w string) bool { return w == "" || strings.Contains(w, " ") }):
		return "Words"
	}
	return ""
}

// anyRequest returns a request that has figures in all its fields.
func anyRequest(figures []int64, i, j, k int) request {
	pick := func(n int) int64 { return figures[(i+n*j+n*n*k)%len(figures)] }
	return request{ID: int(pick(0)), Proposal: int(pick(1)), At: at(pick(2), pick(3), pick(4)), Len: int(pick(5)), Visits: int(pick(6)), Least: int(pick(7)), Most: int(pick(8)), Height: api.Fix(pick(9)), Moon: api.Fix(pick(10)), Cloud: int(pick(11)), Weight: int(pick(12))}
}

// anyNight returns a night that has figures in all its fields.
func anyNight(figures []int64, i, j, k int) api.Night {
	pick := func(n int) int64 { return figures[(i+n*j+n*n*k)%len(figures)] }
	return api.Night{
		Site: api.Site{Lat: api.Arc(pick(0)), Lon: api.Arc(pick(1))}, Spin: api.Rate{At: api.Tick(pick(2)), Angle: api.Arc(pick(3)), Arcs: api.Frac{Num: pick(4), Den: pick(5)}},
		Begin: api.Tick(pick(6)), Long: api.Tick(pick(7)), Slots: int(pick(8)), Sun: at(pick(9), pick(10), pick(11)), Moon: at(pick(12), pick(13), pick(14)), Dusk: api.Fix(pick(15)), Cloud: make([]int, i*7%70),
	}
}

// Z1, Z2, Z3: no arguments make a function panic, results depend on the arguments alone, are valid, and are zero values beside an error.
func TestAnyArguments(t *testing.T) {
	figures := []int64{least, least + 1, -end, -one - 1, -rim - 1, -1, 0, 1, 2, 4, 5, 8, 50, 64, 101, 60_000, 999_999, rim, rim + 1, one, turn - 1, end / 2, most - 1, most}
	names := []string{"", "a", "deep", "a", "\xff", "abcdefghijklm", strings.Repeat("-", 5000)}
	texts := []string{"", "\n", "-0", "9999999999", "deep", "\xff\xfe\n\x00", once, lines(deep, wide, once, twice), lines(deep, wide, wide), "#\n" + deep, "request", "proposal\nproposal", strings.Repeat("a ", 2000), strings.Repeat(" \n", 2001), strings.Repeat("\n", 4000) + "x", strings.Repeat("1 ", 2500)}
	for i := range figures {
		for j := range figures {
			for k := range figures[:12] {
				p, n := sample(), anyNight(figures, i, j, k)
				if k%3 > 0 {
					p.Proposals[k%3] = api.Proposal{Name: names[(i+j)%len(names)], Share: int(figures[j])}
				}
				if k%4 > 0 {
					p.Requests[k%3] = anyRequest(figures, i, j, k)
				}
				if k%7 == 0 {
					p.Requests = append(p.Requests, make([]request, j)...)
				}
				id, s := int(figures[i]), texts[(i+2*j+3*k)%len(texts)]
				o := all(p, n, id, s)
				if fault := o.fault(p, n, id); fault != "" {
					t.Fatalf("%v, %v, %d, %q: %s is wrong: %v", p, n, id, s, fault, o)
				}
				if !reflect.DeepEqual(o, all(p, n, id, s)) {
					t.Fatalf("%v, %v, %d, %q: two results", p, n, id, s)
				}
			}
		}
	}
}

// Z2: programmes and nights are left as they are, also behind the length of their lists.
func TestUnchanged(t *testing.T) {
	p, q := longest(), longest()
	n, m := evening(), evening()
	n.Cloud, m.Cloud = []int{0, 4, 2, 9, -1}, []int{0, 4, 2, 9, -1}
	for i := range p.Proposals {
		for j := range p.Requests {
			shorter, night := programme{Proposals: p.Proposals[:i], Requests: p.Requests[:j]}, n
			night.Cloud = n.Cloud[:3]
			if all(shorter, night, 999_990, deep).nightErr != api.OK {
				t.Error("the night is not valid")
			}
			if !same(p, q) || !reflect.DeepEqual(n, m) {
				t.Fatalf("the arguments are changed: %v, %v", p, n)
			}
		}
	}
}

// Z2: results share no memory, also behind their length, with later ones.
func TestNewMemory(t *testing.T) {
	results := func() outcome { return all(sample(), evening(), 9, lines(deep, wide, once, twice)) }
	first, untouched := results(), results()
	for i := range first.read.Proposals[:cap(first.read.Proposals)] {
		first.read.Proposals[:cap(first.read.Proposals)][i] = api.Proposal{Name: "changed", Share: 99}
	}
	for i := range first.read.Requests[:cap(first.read.Requests)] {
		first.read.Requests[:cap(first.read.Requests)][i] = request{ID: 99}
	}
	for i := range first.words[:cap(first.words)] {
		first.words[:cap(first.words)][i] = "changed"
	}
	if o := results(); !reflect.DeepEqual(o, untouched) {
		t.Errorf("the results are %v, not %v", o, untouched)
	}
}

// Z4: nil and empty lists are the same.
func TestEmpty(t *testing.T) {
	n, m := evening(), evening()
	n.Cloud, m.Cloud = nil, []int{}
	a := all(programme{}, n, 7, "")
	b := all(programme{Proposals: []api.Proposal{}, Requests: []request{}}, m, 7, "")
	if !reflect.DeepEqual(a, b) || a.checked != api.OK || a.nightErr != api.ErrForm {
		t.Errorf("empty lists have other results than nil: %v, %v", a, b)
	}
}
