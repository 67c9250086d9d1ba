package prop

import (
	"strings"

	"spyglass/api"
)

// Read parses a programme. With an error it also returns the number of the line, from 1 on, or 0 if the text is too long.
func Read(s string) (api.Programme, int, api.Errno) {
	if len(s) > api.MaxText {
		return api.Programme{}, 0, api.ErrLarge
	}
	d := draft{index: map[string]int{}}
	for i, text := range strings.Split(s, "\n") {
		if err := d.read(Words(text)); err != api.OK {
			return api.Programme{}, i + 1, err
		}
	}
	return d.programme, 0, api.OK
}

// draft is what was read of a programme so far.
type draft struct {
	programme api.Programme
	index     map[string]int // of the last proposal of a name
}

// read reads a line, and checks what was read so far if the line adds to it.
func (d *draft) read(words []string) api.Errno {
	if len(words) == 0 || strings.HasPrefix(words[0], "#") {
		return api.OK
	}
	if err := d.add(line{words}); err != api.OK {
		return err
	}
	return Check(d.programme)
}

// add adds the proposal or the request of a line; it returns ErrSyntax if the line has another form.
func (d *draft) add(l line) (err api.Errno) {
	// This ends the reading of the line wherever a method of line panics.
	defer func() {
		if recover() != nil {
			err = api.ErrSyntax
		}
	}()
	switch l.word() {
	case "proposal":
		d.addProposal(l.proposal())
	case "request":
		d.addRequest(l.request())
	default:
		return api.ErrSyntax
	}
	return api.OK
}

// addProposal adds a proposal.
func (d *draft) addProposal(p api.Proposal) {
	d.index[p.Name] = len(d.programme.Proposals)
	d.programme.Proposals = append(d.programme.Proposals, p)
}

// addRequest adds a request for the proposal of a name.
func (d *draft) addRequest(r api.Request, name string) {
	index, ok := d.index[name]
	if !ok {
		index = -1
	}
	r.Proposal = index
	d.programme.Requests = append(d.programme.Requests, r)
}

// line has the words of a line that are not read yet. Its methods read words, and panic if others are there.
type line struct{ words []string }

// need panics if a line has another form.
func need(form bool) {
	if !form {
		panic(api.ErrSyntax)
	}
}

// word reads a word.
func (l *line) word() string {
	need(len(l.words) > 0)
	first := l.words[0]
	l.words = l.words[1:]
	return first
}

// number reads a number.
func (l *line) number() int64 {
	n, ok := Number(l.word())
	need(ok)
	return n
}

// keyword reads a certain word.
func (l *line) keyword(want string) { need(l.word() == want) }

// numberOf reads a certain word and the number behind it.
func (l *line) numberOf(want string) int64 {
	l.keyword(want)
	return l.number()
}

// end reads the end of the line.
func (l *line) end() { need(len(l.words) == 0) }

// proposal reads what follows the first word of the line of a proposal.
func (l *line) proposal() api.Proposal {
	p := api.Proposal{Name: l.word()}
	p.Share = int(l.numberOf("share"))
	l.end()
	return p
}

// request reads what follows the first word of the line of a request, and also returns the name of its proposal.
func (l *line) request() (api.Request, string) {
	var r api.Request
	r.ID = int(l.number())
	l.keyword("for")
	name := l.word()
	r.At.X = l.numberOf("at")
	r.At.Y = l.number()
	r.At.Z = l.number()
	r.Len = int(l.numberOf("len"))
	r.Visits = int(l.numberOf("visits"))
	if isRepeated(r) {
		r.Least = int(l.numberOf("gap"))
		r.Most = int(l.number())
	}
	r.Height = api.Fix(l.numberOf("height"))
	r.Moon = api.Fix(l.numberOf("moon"))
	r.Cloud = int(l.numberOf("cloud"))
	r.Weight = int(l.numberOf("weight"))
	l.end()
	return r, name
}
