package prop_test

import (
	"strings"
	"testing"

	"spyglass/api"
	"spyglass/prop"
)

// Chapter 12: the limits are those of the document.
func TestLimits(t *testing.T) {
	if prop.MaxID != 999999 || prop.MaxLen != 8 || prop.MaxCloud != 4 || prop.MinLong != 60_000 || prop.MaxLong != 1_800_000 || prop.MaxTurns != 100 {
		t.Error("a limit is wrong")
	}
}

// P12.1: names, and what is none.
func TestName(t *testing.T) {
	for _, s := range []string{"a", "z", "m", "a0", "a9", "a-", "z--", "b-a-1", "proposal", "abcdefghijkl", "a1234567890-", "zzzzzzzzzzzz"} {
		if !prop.Name(s) {
			t.Errorf("%q is no name", s)
		}
	}
	for _, s := range []string{"", "abcdefghijklm", "a1234567890-1", strings.Repeat("a", 1000), "9", "0a", "-", "-a", "A", "Ab", "aB", "a b", " a", "a ", "a_b", "a\n", "a\x00", "\xff", "a\xff", "ä", "aä", "a.b", "a#", "#a", "ſ", "ａ"} {
		if prop.Name(s) {
			t.Errorf("%q is a name", s)
		}
	}
}

// P12.1: every byte at every place of a name of the greatest length.
func TestNameBytes(t *testing.T) {
	const letters, others = "abcdefghijklmnopqrstuvwxyz", "0123456789-"
	for i := range 12 {
		allowed := letters
		if i > 0 {
			allowed += others
		}
		for b := range 256 {
			name := []byte("abcdefghijkl")
			name[i] = byte(b)
			if want := strings.IndexByte(allowed, byte(b)) >= 0; prop.Name(string(name)) != want {
				t.Errorf("%q: got %v", name, !want)
			}
		}
	}
}

// proposalFaults returns faults of proposals, in the order of P12.1.
func proposalFaults() (list []fault[api.Proposal]) {
	for _, s := range []string{"", "A", "9a", "a b", "abcdefghijklm"} {
		list = append(list, fault[api.Proposal]{1, api.ErrName, func(p *api.Proposal) { p.Name = s }})
	}
	for _, n := range []int{0, -1, 101, most, least} {
		list = append(list, fault[api.Proposal]{2, api.ErrRange, func(p *api.Proposal) { p.Share = n }})
	}
	return list
}

// P12.1: valid proposals, each error, and the order of the errors.
func TestCheckProposal(t *testing.T) {
	for _, p := range []api.Proposal{{Name: "a", Share: 1}, {Name: "abcdefghijk-", Share: 100}, {Name: "x0", Share: 50}} {
		testFaults(t, func() api.Proposal { return p }, proposalFaults(), prop.CheckProposal)
	}
}

// gaps returns a change of the number of visits and of the gaps between them.
func gaps(visits, from, to int) func(*request) {
	return func(r *request) { r.Visits, r.Least, r.Most = visits, from, to }
}

// requestFaults returns faults of requests, in the order of P12.2.
func requestFaults() (list []fault[request]) {
	add := func(rank int, want api.Errno, change func(*request)) {
		list = append(list, fault[request]{rank, want, change})
	}
	for _, n := range []int{0, -1, 1_000_000, most, least} {
		add(1, api.ErrRange, func(r *request) { r.ID = n })
	}
	for _, v := range []vec{{}, at(rim+1, 0, 0), at(1, -rim-1, 0), at(0, 1, rim+1), at(least, 0, 0), at(0, 0, most)} {
		add(2, api.ErrForm, func(r *request) { r.At = v })
	}
	for _, n := range []int{0, -1, 9, most, least} {
		add(3, api.ErrRange, func(r *request) { r.Len = n })
	}
	for _, n := range []int{0, -1, 5, most, least} {
		add(3, api.ErrRange, func(r *request) { r.Visits = n })
	}
	for _, g := range [][2]int{{1, 0}, {0, 1}, {-1, 0}, {0, -1}, {1, 1}, {2, 10}, {1, -1}, {65, 0}, {0, most}, {least, 0}} {
		add(4, api.ErrForm, gaps(1, g[0], g[1]))
	}
	for visits := 2; visits <= 4; visits++ {
		for _, g := range [][2]int{{0, 0}, {0, 1}, {-1, 5}, {-1, -1}, {1, 0}, {2, 1}, {64, 63}, {10, 9}, {1, 65}, {64, 65}, {65, 65}, {65, 64}, {1, most}, {least, 5}, {least, most}, {most, most}, {1, least}} {
			add(4, api.ErrRange, gaps(visits, g[0], g[1]))
		}
	}
	for _, f := range []api.Fix{one + 1, -one - 1, most, least} {
		add(5, api.ErrRange, func(r *request) { r.Height = f })
		add(5, api.ErrRange, func(r *request) { r.Moon = f })
	}
	for _, n := range []int{-1, 5, most, least} {
		add(5, api.ErrRange, func(r *request) { r.Cloud = n })
	}
	for _, n := range []int{0, -1, 101, most, least} {
		add(5, api.ErrRange, func(r *request) { r.Weight = n })
	}
	return list
}

// P12.2: each error of a request, and the order of the errors; the index of the proposal is not checked.
func TestCheckRequest(t *testing.T) {
	testFaults(t, single, requestFaults(), prop.CheckRequest)
	testFaults(t, repeated, requestFaults(), prop.CheckRequest)
	for _, n := range []int{-1, 6, most, least} {
		r := single()
		r.Proposal = n
		if e := prop.CheckRequest(r); e != api.OK {
			t.Errorf("%v: got %d", r, e)
		}
	}
}

// limitsOfRequests returns changes of requests up to their limits.
func limitsOfRequests() []func(*request) {
	return []func(*request){
		func(r *request) { r.ID = 1 }, func(r *request) { r.ID = 999999 },
		func(r *request) { r.At = at(rim, -rim, rim) }, func(r *request) { r.At = at(0, -rim, 0) }, func(r *request) { r.At = at(0, 0, 1) },
		func(r *request) { r.Len = 1 }, func(r *request) { r.Len = 8 },
		gaps(1, 0, 0), gaps(2, 1, 1), gaps(2, 1, 64), gaps(2, 64, 64), gaps(3, 5, 6), gaps(4, 1, 2), gaps(4, 64, 64),
		func(r *request) { r.Height = one }, func(r *request) { r.Height = -one }, func(r *request) { r.Height = 0 },
		func(r *request) { r.Moon = one }, func(r *request) { r.Moon = -one }, func(r *request) { r.Moon = 0 },
		func(r *request) { r.Cloud = 0 }, func(r *request) { r.Cloud = 4 },
		func(r *request) { r.Weight = 1 }, func(r *request) { r.Weight = 100 },
	}
}

// P12.2: requests are valid up to the limits, also several at once.
func TestRequestLimits(t *testing.T) {
	for _, start := range []request{single(), repeated()} {
		for _, a := range limitsOfRequests() {
			for _, b := range limitsOfRequests() {
				r := start
				a(&r)
				b(&r)
				if e := prop.CheckRequest(r); e != api.OK {
					t.Errorf("%v: got %d", r, e)
				}
			}
		}
	}
}

// P12.2: the slots of valid requests, and 0 for all others.
func TestSlots(t *testing.T) {
	for visits := range 6 {
		for length := range 10 {
			r := repeated()
			if visits < 2 {
				r = single()
			}
			r.Visits, r.Len = visits, length
			want := visits * length
			if visits > 4 || length > 8 {
				want = 0
			}
			if n := prop.Slots(r); n != want {
				t.Errorf("Slots(%v) is %d, not %d", r, n, want)
			}
		}
	}
	for _, f := range requestFaults() {
		r := repeated()
		f.make(&r)
		if n := prop.Slots(r); n != 0 {
			t.Errorf("Slots(%v) is %d", r, n)
		}
	}
	r := single()
	r.Proposal = -5
	if n := prop.Slots(r); n != 2 {
		t.Errorf("Slots of a request without a proposal is %d", n)
	}
}

// programmeFaults returns faults of the programme that sample returns, in the order of P12.3.
func programmeFaults() (list []fault[programme]) {
	add := func(rank int, want api.Errno, change func(*programme)) {
		list = append(list, fault[programme]{rank, want, change})
	}
	add(0, api.ErrLarge, func(p *programme) { p.Proposals = make([]api.Proposal, 7) })
	add(0, api.ErrLarge, func(p *programme) { p.Requests = make([]request, 17) })
	add(0, api.ErrLarge, func(p *programme) { p.Proposals, p.Requests = make([]api.Proposal, 100_000), make([]request, 100_000) })
	for i := range 3 {
		for _, f := range proposalFaults() {
			add(10*i+f.rank, f.want, func(p *programme) { f.make(&p.Proposals[i]) })
		}
		for j := range i {
			add(10*i+9, api.ErrTwice, func(p *programme) { p.Proposals[i].Name = p.Proposals[j].Name })
		}
	}
	for i := range 3 {
		for _, f := range requestFaults() {
			add(10*i+100+f.rank, f.want, func(p *programme) { f.make(&p.Requests[i]) })
		}
		for j := range i {
			add(10*i+108, api.ErrTwice, func(p *programme) { p.Requests[i].ID = p.Requests[j].ID })
		}
		for _, n := range []int{-1, 3, most, least} {
			add(10*i+109, api.ErrNone, func(p *programme) { p.Requests[i].Proposal = n })
		}
	}
	return list
}

// P12.3: each error of a programme, for each element, and the order of the errors.
func TestCheck(t *testing.T) {
	testFaults(t, sample, programmeFaults(), prop.Check)
}

// P12.3: programmes are valid up to the limits, and are not beyond them.
func TestProgrammeLimits(t *testing.T) {
	for _, p := range programmes() {
		if e := prop.Check(p); e != api.OK {
			t.Errorf("%v: got %d", p, e)
		}
	}
	p, q, r := longest(), longest(), longest()
	p.Proposals = append(p.Proposals, api.Proposal{Name: "new", Share: 1})
	q.Requests = append(q.Requests, single())
	r.Requests = nil
	if e := prop.Check(p); e != api.ErrLarge {
		t.Errorf("with seven proposals: %d", e)
	}
	if e := prop.Check(q); e != api.ErrLarge {
		t.Errorf("with 17 requests: %d", e)
	}
	if e := prop.Check(r); e != api.OK {
		t.Errorf("without requests: %d", e)
	}
}

// P12.3: a programme without proposals has no index for a request; proposals may be without requests, and may have any number of them.
func TestIndices(t *testing.T) {
	if e := prop.Check(programme{Requests: []request{single()}}); e != api.ErrNone {
		t.Errorf("without proposals: %d", e)
	}
	for i := -2; i < 5; i++ {
		p, want := sample(), api.OK
		if i < 0 || i > 2 {
			want = api.ErrNone
		}
		for k := range p.Requests {
			p.Requests[k].Proposal = i
		}
		if e := prop.Check(p); e != want {
			t.Errorf("all requests for proposal %d: %d", i, e)
		}
	}
}

// P12.3: the first request of an ID is found, in valid programmes and in others.
func TestFind(t *testing.T) {
	p := sample()
	for _, want := range p.Requests {
		if r, ok := prop.Find(p, want.ID); r != want || !ok {
			t.Errorf("Find of %d is %v, %v", want.ID, r, ok)
		}
	}
	first, second, odd := request{ID: 5, Len: -3}, request{ID: 5, Len: 2}, request{ID: least, Weight: most}
	q := programme{Requests: []request{single(), first, odd, second, {}}}
	for id, want := range map[int]request{7: single(), 5: first, least: odd, 0: {}} {
		if r, ok := prop.Find(q, id); r != want || !ok {
			t.Errorf("Find of %d is %v, %v", id, r, ok)
		}
	}
	for _, id := range []int{0, 2, 8, -7, most, least} {
		if r, ok := prop.Find(p, id); r != (request{}) || ok {
			t.Errorf("Find of %d is %v, %v", id, r, ok)
		}
		if r, ok := prop.Find(programme{}, id); r != (request{}) || ok {
			t.Errorf("Find of %d in nothing is %v, %v", id, r, ok)
		}
	}
}
