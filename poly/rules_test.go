package poly_test

import (
	"reflect"
	"slices"
	"strconv"
	"testing"

	"spyglass/api"
	"spyglass/big"
	"spyglass/poly"
)

// outcome is all that the functions of the package return for two polynomials, two numbers and some figures.
type outcome struct {
	of, sum, product, slope, gcd                       poly.Poly
	parts                                              []poly.Poly
	roots                                              []poly.Root
	value                                              big.Int
	sign, count                                        int
	checked                                            api.Errno
	ofErr, sumErr, mulErr, deriveErr, gcdErr, partsErr api.Errno
	rootsErr, valueErr, signErr, countErr              api.Errno
}

// all calls every function of the package.
func all(p, q poly.Poly, lo, hi api.Frac, l []int64, unit int64) (r outcome) {
	r.checked = poly.Check(p)
	r.of, r.ofErr = poly.Of(l)
	r.sum, r.sumErr = poly.Add(p, q)
	r.product, r.mulErr = poly.Mul(p, q)
	r.slope, r.deriveErr = poly.Derive(p)
	r.gcd, r.gcdErr = poly.Gcd(p, q)
	r.parts, r.partsErr = poly.Parts(p)
	r.roots, r.rootsErr = poly.Roots(p, unit)
	x := big.Of(unit)
	if len(q) > 0 {
		x = q[0]
	}
	r.value, r.valueErr = poly.Eval(p, x)
	r.sign, r.signErr = poly.Sign(p, lo)
	r.count, r.countErr = poly.Count(p, lo, hi)
	return r
}

// polys returns the polynomials of an outcome, each with its error.
func (r outcome) polys() ([]poly.Poly, []api.Errno) {
	list := []poly.Poly{r.of, r.sum, r.product, r.slope, r.gcd}
	errs := []api.Errno{r.ofErr, r.sumErr, r.mulErr, r.deriveErr, r.gcdErr}
	for _, p := range r.parts {
		list, errs = append(list, p), append(errs, r.partsErr)
	}
	return list, errs
}

// anything returns polynomials of every sort.
func anything() []poly.Poly {
	list, _ := invalid()
	list = append(list, nil, poly.Poly{}, of(1), of(-4), of(0, 1), of(-9, -3, 8, 4), of(1, 0, 1), of(least, most), of(0, 0, 0, 0, 0, 0, 0, 0, 0, 0, 0, 0, 1))
	list = append(list, poly.Poly{two(320, -1), two(319, 0), big.Neg(two(320, -1))}, random(1, 12, 320).poly(), random(2, 6, 160).poly(), random(3, 6, 160).poly(), random(4, 1, 320).poly())
	return append(list, poly.Poly{big.Of(-2), two(157, 0), big.Neg(two(312, 0)), big.Of(0), big.Of(0), big.Of(0), big.Of(0), big.Of(0), big.Of(1)})
}

// fault returns what is wrong with an outcome whatever the arguments are.
func (r outcome) fault() string {
	list, errs := r.polys()
	for i, p := range list {
		if poly.Check(p) != api.OK || errs[i] != api.OK && len(p) > 0 {
			return "polynomial " + strconv.Itoa(i)
		}
	}
	switch {
	case r.partsErr != api.OK && len(r.parts) > 0:
		return "Parts"
	case r.rootsErr != api.OK && len(r.roots) > 0:
		return "Roots"
	case r.valueErr != api.OK && r.value != (big.Int{}):
		return "Eval"
	case r.signErr != api.OK && r.sign != 0 || r.sign < -1 || r.sign > 1:
		return "Sign"
	case r.countErr != api.OK && r.count != 0 || r.count < 0 || r.count > poly.MaxDegree:
		return "Count"
	}
	for _, x := range r.roots {
		if x.Lo < -top || x.Hi > top || x.Hi != x.Lo && x.Hi != x.Lo+1 || x.Times < 1 || x.Times > poly.MaxDegree {
			return "a root"
		}
	}
	return ""
}

// Z1, Z2, Z3: no arguments make a function panic, results depend on the arguments alone, are valid, and are zero values beside an error.
func TestAnyArguments(t *testing.T) {
	list := anything()
	ends := []api.Frac{{}, frac(0, 1), frac(-1, 2), frac(top, 1), frac(-top, 1), frac(1, top), frac(2, 2), frac(least, least), frac(most, 7), frac(5, 3)}
	units := []int64{least, -1, 0, 1, 1 << 20, top, top + 1, most}
	figures := [][]int64{nil, {}, {0}, {1, 2}, {least, most, 0}, make([]int64, 40), append(make([]int64, 40), 1)}
	for i, p := range list {
		for j, q := range list {
			lo, hi, l, unit := ends[(i+j)%10], ends[(i*3+j)%10], figures[(i+j)%7], units[(i*2+j)%8]
			r := all(p, q, lo, hi, l, unit)
			if fault := r.fault(); fault != "" {
				t.Fatalf("%d, %d: %s is wrong", i, j, fault)
			}
			if (i+j)%5 == 0 && !reflect.DeepEqual(r, all(p, q, lo, hi, l, unit)) {
				t.Fatalf("%d, %d: two results", i, j)
			}
		}
	}
}

// Z2: arguments are left as they are, also behind their length.
func TestUnchanged(t *testing.T) {
	memory := append(of(-9, -3, 8, 4, 17, 18), random(1, 9, 200).poly()...)
	other := append(random(7, 5, 100).poly(), of(5, 6, 7)...)
	figures := []int64{4, 0, 0, 7, 8}
	before, beside := text(memory), text(other)
	for _, n := range []int{0, 1, 4, 9, 13} {
		for _, m := range []int{0, 1, 4, 6} {
			all(memory[:n], other[:m], frac(-2, 1), frac(7, 3), figures[:3], 1000)
			all(other[:m], memory[:n], frac(-2, 1), frac(7, 3), figures[:2], 1000)
		}
	}
	if !slices.Equal(text(memory), before) || !slices.Equal(text(other), beside) || !slices.Equal(figures, []int64{4, 0, 0, 7, 8}) {
		t.Errorf("changed: %v, %v, %v", text(memory), text(other), figures)
	}
}

// memory returns the addresses that a value refers to, also behind the length of slices.
func memory(v reflect.Value) []uintptr {
	var list []uintptr
	switch v.Kind() {
	case reflect.Struct:
		for i := range v.NumField() {
			list = append(list, memory(v.Field(i))...)
		}
	case reflect.Pointer:
		if !v.IsNil() {
			list = append([]uintptr{v.Pointer()}, memory(v.Elem())...)
		}
	case reflect.Slice:
		whole := v.Slice(0, v.Cap())
		for i := range whole.Len() {
			list = append(list, whole.Index(i).Addr().Pointer())
			list = append(list, memory(whole.Index(i))...)
		}
	}
	return list
}

// Z2: results are new memory, including spare capacity, and share none with the arguments or with each other.
func TestNewMemory(t *testing.T) {
	p := random(1, 3, 100).product(random(2, 2, 90).power(2)).poly()
	q := random(1, 3, 100).product(random(4, 1, 90)).poly()
	list := []poly.Poly{nil, of(5), {two(100, 3)}, {big.Neg(two(100, 3)), two(90, 1)}, {two(64, 0), big.Of(1)}, of(1, 2, 1), p, q}
	figures := []int64{1, 2, 3, 0, 0}
	for i, a := range list {
		for j, b := range list {
			if i == j {
				continue
			}
			first, second := all(a, b, frac(0, 1), frac(1, 1), figures, 8), all(a, b, frac(0, 1), frac(1, 1), figures, 8)
			seen := map[uintptr]bool{}
			for _, v := range []any{a, b, first, second, figures} {
				for _, address := range memory(reflect.ValueOf(v)) {
					if seen[address] {
						t.Fatalf("%d, %d: shared memory", i, j)
					}
					seen[address] = true
				}
			}
		}
	}
}

// Z4: nil and empty polynomials and lists are the same.
func TestEmpty(t *testing.T) {
	for _, q := range []poly.Poly{nil, {}, of(3, 1)} {
		a, b := all(nil, q, frac(0, 1), frac(1, 1), nil, 5), all(poly.Poly{}, q, frac(0, 1), frac(1, 1), []int64{}, 5)
		left, errs := a.polys()
		right, others := b.polys()
		same := slices.EqualFunc(left, right, func(p, q poly.Poly) bool { return slices.Equal(text(p), text(q)) })
		if !same || !slices.Equal(errs, others) || a.checked != b.checked || a.rootsErr != b.rootsErr || a.countErr != b.countErr || a.value != b.value || a.sign != b.sign {
			t.Errorf("empty and nil differ beside %v", text(q))
		}
	}
}
