package num_test

import (
	"math/bits"
	"testing"

	"spyglass/api"
	"spyglass/num"
)

// outcome is all that the functions of the package return for three numbers.
type outcome struct {
	sum, diff, product, down, up                    int64
	sumFits, diffFits, productFits                  bool
	downErr, upErr, divErr                          api.Errno
	floor, ceil, round, mod, gcd, sqrt, sqrtProduct int64
	wide, neg, plus                                 num.Wide
	order                                           int
	wideMod, div                                    int64
}

// all calls every function of the package.
func all(a, b, c int64) (r outcome) {
	r.sum, r.sumFits = num.Add(a, b)
	r.diff, r.diffFits = num.Sub(a, b)
	r.product, r.productFits = num.Mul(a, b)
	r.floor, r.ceil, r.round, r.mod = num.FloorDiv(a, b), num.CeilDiv(a, b), num.RoundDiv(a, b), num.Mod(a, b)
	r.down, r.downErr = num.MulDiv(a, b, c)
	r.up, r.upErr = num.MulDivUp(a, b, c)
	r.gcd, r.sqrt, r.sqrtProduct = num.Gcd(a, b), num.Sqrt(a), num.SqrtMul(a, b)
	r.wide = num.Wide{Hi: a, Lo: uint64(b)}
	r.neg, r.plus, r.order = r.wide.Neg(), r.wide.Plus(num.Product(b, c)), r.wide.Cmp(num.Product(b, c))
	r.wideMod = r.wide.Mod(c)
	r.div, r.divErr = r.wide.Div(c)
	return r
}

// Z1: no numbers make a function panic.
func TestNoPanic(t *testing.T) {
	var a, b, c int64
	defer func() {
		if p := recover(); p != nil {
			t.Errorf("panic with %d, %d, %d: %v", a, b, c, p)
		}
	}()
	for _, a = range edges() {
		for _, b = range edges() {
			for _, c = range edges() {
				all(a, b, c)
			}
		}
	}
}

// Z2: a result depends only on the arguments, not on the calls before.
func TestNoState(t *testing.T) {
	list := edges()
	var first []outcome
	for i := range list {
		first = append(first, all(list[i], list[len(list)-1-i], list[(i*7)%len(list)]))
	}
	for i := len(list) - 1; i >= 0; i-- {
		if r := all(list[i], list[len(list)-1-i], list[(i*7)%len(list)]); r != first[i] {
			t.Errorf("call %d: first %v, then %v", i, first[i], r)
		}
	}
}

// Z3: with an error the result is 0, and ErrArg comes before ErrLarge.
func TestErrors(t *testing.T) {
	for _, a := range edges() {
		for _, b := range edges() {
			for _, c := range edges() {
				r := all(a, b, c)
				for _, e := range []api.Errno{r.downErr, r.upErr, r.divErr} {
					if (c < 1) != (e == api.ErrArg) || e != api.OK && e != api.ErrArg && e != api.ErrLarge {
						t.Fatalf("%d, %d, %d: error %d", a, b, c, e)
					}
				}
				if r.downErr != api.OK && r.down != 0 || r.upErr != api.OK && r.up != 0 || r.divErr != api.OK && r.div != 0 {
					t.Fatalf("%d, %d, %d: results beside errors: %v", a, b, c, r)
				}
			}
		}
	}
}

// Z4: an int has 64 bits, and beside false the result is 0.
func TestFalse(t *testing.T) {
	if bits.UintSize != 64 {
		t.Errorf("an int has %d bits", bits.UintSize)
	}
	for _, a := range edges() {
		for _, b := range edges() {
			r := all(a, b, 1)
			if !r.sumFits && r.sum != 0 || !r.diffFits && r.diff != 0 || !r.productFits && r.product != 0 {
				t.Errorf("%d, %d: results beside false: %v", a, b, r)
			}
		}
	}
}
