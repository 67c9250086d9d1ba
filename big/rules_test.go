package big_test

import (
	"reflect"
	"slices"
	"strconv"
	"testing"

	"spyglass/api"
	"spyglass/big"
)

// outcome is all that the functions of the package return for two numbers, a small one and a text.
type outcome struct {
	of, neg, abs, gcd                  big.Int
	sum, diff, product, quotient, rest big.Int
	shifted, root, read                big.Int
	sumErr, diffErr, mulErr, divErr    api.Errno
	shiftErr, rootErr, readErr         api.Errno
	small                              int64
	fits                               bool
	bits, sign, order                  int
	text                               string
}

// call calls every function of the package.
func call(a, b big.Int, n int64, s string) (r outcome) {
	r.of, r.neg, r.abs, r.gcd = big.Of(n), big.Neg(a), big.Abs(a), big.Gcd(a, b)
	r.small, r.fits = big.Small(a)
	r.bits, r.sign, r.order, r.text = big.Bits(a), big.Sign(a), big.Cmp(a, b), big.Text(a)
	r.sum, r.sumErr = big.Add(a, b)
	r.diff, r.diffErr = big.Sub(a, b)
	r.product, r.mulErr = big.Mul(a, b)
	r.quotient, r.rest, r.divErr = big.DivMod(a, b)
	r.shifted, r.shiftErr = big.Shift(a, int(n))
	r.root, r.rootErr = big.Sqrt(a)
	r.read, r.readErr = big.Read(s)
	return r
}

// ints returns the Ints of an outcome.
func (r outcome) ints() []big.Int {
	return []big.Int{r.of, r.neg, r.abs, r.gcd, r.sum, r.diff, r.product, r.quotient, r.rest, r.shifted, r.root, r.read}
}

// errs returns the error beside each Int of an outcome.
func (r outcome) errs() []api.Errno {
	return []api.Errno{0, 0, 0, 0, r.sumErr, r.diffErr, r.mulErr, r.divErr, r.divErr, r.shiftErr, r.rootErr, r.readErr}
}

// anything returns numbers of every sort.
func anything() []big.Int {
	list := edges()
	for _, n := range []int{63, 64, 65, 300, 1000} {
		list = append(list, chance(uint64(n), n))
	}
	ints := all(list)
	return append(ints, big.Int{}, from(near(big.MaxBits, -1)), from(opposite(power(big.MaxBits-1), true)))
}

// Z1, Z2, Z3: no arguments make a function panic, results depend on the arguments alone, have at most MaxBits bits,
// and are zero values beside an error.
func TestAnyArguments(t *testing.T) {
	shifts := []int64{0, 1, -1, 63, -64, 65, -1000, big.MaxBits - 1, big.MaxBits, big.MaxBits + 1, -big.MaxBits, -big.MaxBits - 1, most, least, 1 << 32, -1 << 32}
	strange := []string{"", "-", "-0", "00", "7", "-98765432109876543210", "12x", "\x00", "\xff\xfe", "9999999999999999999", "10000000000000000000"}
	list := anything()
	for i, a := range list {
		for j, b := range list {
			if max(big.Bits(a), big.Bits(b)) > 5000 && (i+j)%9 != 0 {
				// The longest numbers take long.
				continue
			}
			n, s := shifts[(i+j)%len(shifts)], strange[(i+j)%len(strange)]
			r := call(a, b, n, s)
			for k, x := range r.ints() {
				if big.Bits(x) > big.MaxBits || r.errs()[k] != api.OK && x != (big.Int{}) {
					t.Fatalf("%d, %d: result %d has %d bits and error %d", i, j, k, big.Bits(x), r.errs()[k])
				}
			}
			if !r.fits && r.small != 0 {
				t.Fatalf("%d: Small returns %d beside false", i, r.small)
			}
			if (i+j)%7 == 0 && !reflect.DeepEqual(r, call(a, b, n, s)) {
				t.Fatalf("%d, %d: two results", i, j)
			}
		}
	}
}

// Z2: an Int is immutable: what it stands for stays the same, whatever is computed from it and from the results.
func TestImmutable(t *testing.T) {
	var list []big.Int
	for _, s := range []string{"0", "-5", "9223372036854775808", "-18446744073709551615", "18446744073709551616", "-340282366920938463463374607431768211457", "340282366920938463463374607431768211455"} {
		list = append(list, of(s))
	}
	list = append(list, from(chance(1, 500)), from(opposite(chance(2, 700), true)))
	var before []string
	for _, a := range list {
		before = append(before, big.Text(a))
	}
	for _, a := range slices.Clone(list) {
		for _, b := range slices.Clone(list) {
			for _, n := range []int64{0, 1, -1, 64, -64} {
				results := call(a, b, n, "36893488147419103234")
				for _, x := range results.ints() {
					text := big.Text(x)
					call(x, a, n, "5")
					call(b, x, -n, "5")
					if big.Text(x) != text {
						t.Fatalf("a result changed from %s to %s", text, big.Text(x))
					}
				}
			}
		}
	}
	for i, a := range list {
		if big.Text(a) != before[i] {
			t.Errorf("%s became %s", before[i], big.Text(a))
		}
	}
}

// memory returns the addresses that a value refers to.
func memory(v reflect.Value) []uintptr {
	var list []uintptr
	switch v.Kind() {
	case reflect.Struct:
		for i := range v.NumField() {
			list = append(list, memory(v.Field(i))...)
		}
	case reflect.Pointer:
		if !v.IsNil() {
			list = append([]uintptr{v.Pointer()}, memory(v.Elem())...)
		}
	case reflect.Slice:
		if v.Cap() > 0 {
			list = append(list, v.Pointer())
		}
	}
	return list
}

// Z2: results are new memory and share none with the arguments or with each other.
func TestNewMemory(t *testing.T) {
	var list []big.Int
	for _, n := range []int64{0, -7, 1} {
		list = append(list, big.Of(n))
	}
	for i, n := range []int{64, 65, 128, 200, 201} {
		list = append(list, from(chance(uint64(i), n)), from(opposite(chance(uint64(i), n), true)))
	}
	for i, a := range list {
		for j, b := range list {
			for _, n := range []int64{0, 1, -1, 64, -64} {
				results := call(a, b, n, "36893488147419103234").ints()
				seen := map[uintptr]bool{}
				for _, x := range append(results, list...) {
					for _, address := range memory(reflect.ValueOf(x)) {
						if seen[address] {
							t.Fatalf("%d, %d, %d: shared memory", i, j, n)
						}
						seen[address] = true
					}
				}
			}
		}
	}
}

// Z4: an int has 64 bits.
func TestIntSize(t *testing.T) {
	if strconv.IntSize != 64 {
		t.Errorf("an int has %d bits", strconv.IntSize)
	}
}
