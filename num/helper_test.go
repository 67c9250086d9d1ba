package num_test

import (
	"math"
	"math/big"
	"slices"

	"spyglass/num"
)

const (
	least = math.MinInt64
	most  = math.MaxInt64
)

// edges returns numbers around the powers of two and around the limits, and a few without structure.
func edges() []int64 {
	list := []int64{0, least, least + 1, most - 1, most, 1_000_003, -1_000_003, 3037000499, 3037000500, 6148914691236517205, -6148914691236517205, 7_777_777_777_777_777_777}
	for _, k := range []int{0, 1, 2, 3, 7, 31, 32, 33, 53, 61, 62} {
		for d := int64(-1); d <= 1; d++ {
			list = append(list, 1<<k+d, -(1<<k)+d)
		}
	}
	slices.Sort(list)
	return slices.Compact(list)
}

// wides returns Wides around 0, the borders of 64 bits, the products of edges and the limits.
func wides() []num.Wide {
	list := []num.Wide{{Hi: least}, {Hi: least, Lo: 1}, {Hi: most, Lo: math.MaxUint64}, {Hi: 1 << 62}, {Hi: -1 << 62}}
	for _, hi := range []int64{-1 << 33, -5, -2, -1, 0, 1, 4, 1 << 33} {
		for _, lo := range []uint64{0, 1, 2, 3, 1<<63 - 1, 1 << 63, 1<<63 + 1, math.MaxUint64 - 1, math.MaxUint64} {
			list = append(list, num.Wide{Hi: hi, Lo: lo})
		}
	}
	return list
}

// exact returns the number that w stands for.
func exact(w num.Wide) *big.Int {
	n := new(big.Int).Lsh(big.NewInt(w.Hi), 64)
	return n.Add(n, new(big.Int).SetUint64(w.Lo))
}

// wrapped returns the Wide whose number differs from n by a multiple of 2^128.
func wrapped(n *big.Int) num.Wide {
	low := new(big.Int).And(n, new(big.Int).SetUint64(math.MaxUint64))
	high := new(big.Int).Rsh(n, 64)
	high.And(high, new(big.Int).SetUint64(math.MaxUint64))
	return num.Wide{Hi: int64(high.Uint64()), Lo: low.Uint64()}
}

// fitted returns n and true, or 0 and false if n does not fit.
func fitted(n *big.Int) (int64, bool) {
	if !n.IsInt64() {
		return 0, false
	}
	return n.Int64(), true
}

// floor returns the greatest whole number that is at most a/b, for positive b.
func floor(a, b *big.Int) *big.Int {
	// Euclidean division rounds down for positive divisors.
	return new(big.Int).Div(a, b)
}

// ceil returns the least whole number that is at least a/b, for positive b.
func ceil(a, b *big.Int) *big.Int {
	down := floor(new(big.Int).Neg(a), b)
	return down.Neg(down)
}

// round returns the whole number that is nearest to a/b, for positive b, of two the one farther from 0.
func round(a, b *big.Int) *big.Int {
	// It is the floor of (2|a| + b) / 2b, with the sign of a.
	n := new(big.Int).Abs(a)
	n.Lsh(n, 1).Add(n, b)
	n = floor(n, new(big.Int).Lsh(b, 1))
	if a.Sign() < 0 {
		n.Neg(n)
	}
	return n
}
