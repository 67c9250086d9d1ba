package big_test

import (
	"math"
	exact "math/big"
	"slices"

	"spyglass/api"
	"spyglass/big"
)

const (
	least = math.MinInt64
	most  = math.MaxInt64
)

// of returns the number that a text stands for, or 0.
func of(s string) big.Int {
	a, _ := big.Read(s)
	return a
}

// from returns an exact number as an Int.
func from(n *exact.Int) big.Int { return of(n.String()) }

// value returns the exact number that an Int stands for.
func value(a big.Int) *exact.Int {
	n, _ := new(exact.Int).SetString(big.Text(a), 10)
	return n
}

// power returns 2^k.
func power(k int) *exact.Int { return new(exact.Int).Lsh(exact.NewInt(1), uint(k)) }

// near returns 2^k + d.
func near(k int, d int64) *exact.Int { return new(exact.Int).Add(power(k), exact.NewInt(d)) }

// both returns some numbers and their opposite ones, sorted, each of them once.
func both(list []*exact.Int) []*exact.Int {
	for _, n := range slices.Clone(list) {
		list = append(list, new(exact.Int).Neg(n))
	}
	slices.SortFunc(list, (*exact.Int).Cmp)
	return slices.CompactFunc(list, func(a, b *exact.Int) bool { return a.Cmp(b) == 0 })
}

// edges returns small numbers, and numbers around the borders of words.
func edges() []*exact.Int {
	var list []*exact.Int
	for n := int64(0); n <= 7; n++ {
		list = append(list, exact.NewInt(n))
	}
	for _, n := range []int64{1_000_003, 3037000499, 6148914691236517205, 7_777_777_777_777_777_777} {
		list = append(list, exact.NewInt(n))
	}
	for _, k := range []int{31, 32, 53, 62, 63, 64, 65, 96, 127, 128, 129, 191, 192, 256} {
		for d := int64(-1); d <= 1; d++ {
			list = append(list, near(k, d))
		}
	}
	return both(list)
}

// patterns returns all numbers of up to count words that are 0, 1, or around the middle or the end of a word.
func patterns(count int) []*exact.Int {
	list := []*exact.Int{exact.NewInt(0)}
	for range count {
		var longer []*exact.Int
		for _, n := range list {
			for _, word := range []uint64{0, 1, 1<<63 - 1, 1 << 63, 1<<63 + 1, math.MaxUint64 - 1, math.MaxUint64} {
				m := new(exact.Int).Lsh(n, 64)
				longer = append(longer, m.Add(m, new(exact.Int).SetUint64(word)))
			}
		}
		list = longer
	}
	return list
}

// chance returns numbers without structure; state chooses them.
func chance(state uint64, bits int) *exact.Int {
	n := new(exact.Int)
	for got := 0; got < bits; got += 32 {
		state = state*6364136223846793005 + 1442695040888963407
		n.Lsh(n, 32).Add(n, new(exact.Int).SetUint64(state>>32))
	}
	// All of the bits are counted, and no more.
	n.And(n, near(bits, -1))
	return n.SetBit(n, bits-1, 1)
}

// long returns numbers of several sizes without structure, of both signs.
func long() []*exact.Int {
	var list []*exact.Int
	for i, bits := range []int{1, 17, 61, 62, 63, 64, 65, 100, 127, 128, 129, 190, 193, 320, 321, 640, 1000, 2048, 5000} {
		for j := range 2 {
			list = append(list, chance(uint64(10*i+j), bits))
		}
	}
	return both(list)
}

// top returns numbers around the greatest one, of both signs, all of them permitted.
func top() []*exact.Int {
	list := []*exact.Int{power(big.MaxBits - 1), near(big.MaxBits, -1), near(big.MaxBits, -2), chance(5, big.MaxBits), chance(6, big.MaxBits)}
	return both(list)
}

// limited returns an exact number as Add, Sub and Mul should return it.
func limited(n *exact.Int) (*exact.Int, api.Errno) {
	if n.BitLen() > big.MaxBits {
		return new(exact.Int), api.ErrLarge
	}
	return n, api.OK
}

// same reports whether an Int stands for an exact number in all respects; it has to be Int{} for 0.
func same(a big.Int, n *exact.Int) bool {
	if n.Sign() == 0 {
		return a == big.Int{}
	}
	x, small := big.Small(a)
	want, fits := fitted(n)
	return big.Text(a) == n.String() && big.Bits(a) == n.BitLen() && big.Bits(a) <= big.MaxBits && x == want && small == fits
}

// fitted returns n and true, or 0 and false if n does not fit into 64 bits.
func fitted(n *exact.Int) (int64, bool) {
	if !n.IsInt64() {
		return 0, false
	}
	return n.Int64(), true
}

// all returns the Ints of some exact numbers.
func all(list []*exact.Int) []big.Int {
	var ints []big.Int
	for _, n := range list {
		ints = append(ints, from(n))
	}
	return ints
}
