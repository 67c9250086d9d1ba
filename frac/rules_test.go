package frac_test

import (
	"reflect"
	"slices"
	"testing"

	"spyglass/api"
	"spyglass/frac"
)

// outcome is all that the functions of the package return for two numbers, a number of terms and a text.
type outcome struct {
	checked                            api.Errno
	made, sum, diff, product, quotient api.Frac
	madeErr, sumErr, diffErr, mulErr   api.Errno
	divErr, textErr, readErr, termsErr api.Errno
	fromErr, bestErr                   api.Errno
	order                              int
	floor, ceil, round                 int64
	text                               string
	read, from, best                   api.Frac
	terms                              []int64
}

// all calls every function of the package.
func all(a, b api.Frac, s string) (r outcome) {
	r.checked = frac.Check(a)
	r.made, r.madeErr = frac.Make(a.Num, b.Den)
	r.sum, r.sumErr = frac.Add(a, b)
	r.diff, r.diffErr = frac.Sub(a, b)
	r.product, r.mulErr = frac.Mul(a, b)
	r.quotient, r.divErr = frac.Div(a, b)
	r.order = frac.Cmp(a, b)
	r.floor, r.ceil, r.round = frac.Floor(a), frac.Ceil(a), frac.Round(a)
	r.text, r.textErr = frac.Text(a)
	r.read, r.readErr = frac.Read(s)
	r.terms, r.termsErr = frac.Terms(a)
	r.from, r.fromErr = frac.From([]int64{a.Num, a.Den, b.Num, b.Den})
	r.best, r.bestErr = frac.Best(a, b.Den)
	return r
}

// anything returns numbers of every sort.
func anything() []api.Frac {
	var list []api.Frac
	for _, n := range []int64{least, least + 1, -top - 1, -top, -4, -1, 0, 1, 2, 3, 4096, top - 1, top, top + 1, most} {
		for _, d := range []int64{least, -top, -1, 0, 1, 2, 3, 4096, top - 1, top, top + 1, most} {
			list = append(list, of(n, d))
		}
	}
	return list
}

// Z1, Z2, Z3: no arguments make a function panic, results depend on the arguments alone,
// are valid, and are zero values beside an error.
func TestAnyArguments(t *testing.T) {
	strange := []string{"", "-", "/", "-/", "//", "0/", "\x00", "\xff/\xfe", "9999999999999999999999/3", "5/3", "-12"}
	for i, a := range anything() {
		for j, b := range anything() {
			s := strange[(i+j)%len(strange)]
			r := all(a, b, s)
			if !reflect.DeepEqual(r, all(a, b, s)) {
				t.Fatalf("%v, %v, %q: two results", a, b, s)
			}
			for k, x := range []api.Frac{r.made, r.sum, r.diff, r.product, r.quotient, r.read, r.from, r.best} {
				err := []api.Errno{r.madeErr, r.sumErr, r.diffErr, r.mulErr, r.divErr, r.readErr, r.fromErr, r.bestErr}[k]
				if err == api.OK && frac.Check(x) != api.OK || err != api.OK && x != (api.Frac{}) {
					t.Fatalf("%v, %v, %q: result %d is %v with error %d", a, b, s, k, x, err)
				}
			}
			if (r.textErr == api.OK) == (r.text == "") || (r.termsErr == api.OK) == (len(r.terms) == 0) {
				t.Fatalf("%v: text %q, %d, terms %v, %d", a, r.text, r.textErr, r.terms, r.termsErr)
			}
		}
	}
}

// Z2: From leaves its terms as they are, also behind their length.
func TestFromUnchanged(t *testing.T) {
	memory := []int64{3, 7, 15, 1, 292, 1, 9}
	before := slices.Clone(memory)
	if x, e := frac.From(memory[:3]); x != of(333, 106) || e != api.OK {
		t.Errorf("got %v, %d", x, e)
	}
	if !slices.Equal(memory, before) {
		t.Errorf("the terms are changed: %v", memory)
	}
}

// Z2: the terms are new memory, including spare capacity.
func TestTermsNew(t *testing.T) {
	a, _ := frac.Terms(of(157, 50))
	b, _ := frac.Terms(of(157, 50))
	for i := range a[:cap(a)] {
		a[:cap(a)][i] = -1
	}
	c, _ := frac.Terms(of(157, 50))
	if want := []int64{3, 7, 7}; !slices.Equal(b, want) || !slices.Equal(c, want) {
		t.Errorf("the terms share memory: %v, %v", b, c)
	}
}
