package sys

import (
	"math"
	"math/big"
	"testing"

	"loomwork/api"
)

const least, greatest = math.MinInt64, math.MaxInt64

// P7.3: each operator of some numbers.
func TestApply(t *testing.T) {
	wants := []struct {
		k          int
		a, b, want int64
	}{
		{api.KAdd, 2, 3, 5}, {api.KAdd, -2, -3, -5}, {api.KAdd, greatest, 1, least}, {api.KAdd, least, -1, greatest}, {api.KAdd, least, least, 0},
		{api.KSub, 2, 3, -1}, {api.KSub, 3, -2, 5}, {api.KSub, least, 1, greatest}, {api.KSub, greatest, -1, least}, {api.KSub, 0, least, least},
		{api.KMul, -4, 3, -12}, {api.KMul, -4, -3, 12}, {api.KMul, greatest, 2, -2}, {api.KMul, least, -1, least}, {api.KMul, 1 << 32, 1 << 32, 0},
		{api.KDiv, 7, 2, 3}, {api.KDiv, -7, 2, -3}, {api.KDiv, 7, -2, -3}, {api.KDiv, -7, -2, 3}, {api.KDiv, 1, 2, 0}, {api.KDiv, -1, 2, 0},
		{api.KDiv, 7, 0, 0}, {api.KDiv, 0, 0, 0}, {api.KDiv, least, 0, 0}, {api.KDiv, least, -1, least}, {api.KDiv, greatest, -1, least + 1}, {api.KDiv, least, 1, least},
		{api.KMod, 7, 2, 1}, {api.KMod, -7, 2, -1}, {api.KMod, 7, -2, 1}, {api.KMod, -7, -2, -1}, {api.KMod, 6, 2, 0}, {api.KMod, 1, 2, 1},
		{api.KMod, 7, 0, 0}, {api.KMod, 0, 0, 0}, {api.KMod, least, 0, 0}, {api.KMod, least, -1, 0}, {api.KMod, 5, -1, 0}, {api.KMod, least, greatest, -1},
		{api.KMin, 2, 3, 2}, {api.KMin, 3, 2, 2}, {api.KMin, -1, 1, -1}, {api.KMin, greatest, least, least}, {api.KMin, 4, 4, 4},
		{api.KMax, 2, 3, 3}, {api.KMax, 3, 2, 3}, {api.KMax, -1, 1, 1}, {api.KMax, greatest, least, greatest}, {api.KMax, 4, 4, 4},
		{api.KLess, 2, 3, 1}, {api.KLess, 3, 2, 0}, {api.KLess, 3, 3, 0}, {api.KLess, least, greatest, 1}, {api.KLess, greatest, least, 0}, {api.KLess, -1, 0, 1},
		{api.KEq, 2, 3, 0}, {api.KEq, 3, 3, 1}, {api.KEq, least, least, 1}, {api.KEq, least, greatest, 0}, {api.KEq, 1, -1, 0},
		{api.KAnd, 0, 0, 0}, {api.KAnd, 0, 1, 0}, {api.KAnd, 1, 0, 0}, {api.KAnd, 1, 1, 1}, {api.KAnd, 1, 2, 1}, {api.KAnd, least, -1, 1}, {api.KAnd, 7, 0, 0},
		{api.KOr, 0, 0, 0}, {api.KOr, 0, 1, 1}, {api.KOr, 1, 0, 1}, {api.KOr, 1, 1, 1}, {api.KOr, 4, 2, 1}, {api.KOr, least, 0, 1}, {api.KOr, 0, -3, 1},
		{api.KXor, 0, 0, 0}, {api.KXor, 0, 1, 1}, {api.KXor, 1, 0, 1}, {api.KXor, 1, 1, 0}, {api.KXor, 1, 2, 0}, {api.KXor, least, 0, 1}, {api.KXor, 3, 0, 1},
		{api.KNeg, 5, 9, -5}, {api.KNeg, -5, 0, 5}, {api.KNeg, 0, 1, 0}, {api.KNeg, least, 0, least}, {api.KNeg, greatest, 0, least + 1},
		{api.KNot, 0, 0, 1}, {api.KNot, 0, 1, 1}, {api.KNot, 1, 0, 0}, {api.KNot, 1, 1, 0}, {api.KNot, 7, 0, 0}, {api.KNot, least, 0, 0}, {api.KNot, -1, 5, 0},
	}
	for _, w := range wants {
		if got := Apply(w.k, w.a, w.b); got != w.want {
			t.Errorf("%d of %d and %d: %d, want %d", w.k, w.a, w.b, got, w.want)
		}
	}
}

// someNumbers are small ones, the least and the greatest, and some between.
func someNumbers() []int64 {
	list := []int64{1 << 31, 1<<31 - 1, -1 << 31, 1 << 32, 3037000500, -3037000500, 1 << 62, -1 << 62, 1000000007}
	for i := int64(0); i < 5; i++ {
		list = append(list, i, -i, least+i, greatest-i)
	}
	return list
}

// wrapped is a number round which it wraps.
func wrapped(n *big.Int) int64 {
	all := new(big.Int).Lsh(big.NewInt(1), 64)
	return int64(new(big.Int).Mod(n, all).Uint64())
}

// saidApply is what the chapter says, of numbers without bounds.
func saidApply(k int, x, y int64) int64 {
	a, b, made := big.NewInt(x), big.NewInt(y), new(big.Int)
	one := map[bool]int64{true: 1}
	isA, isB := a.Sign() != 0, b.Sign() != 0
	switch k {
	case api.KAdd:
		made.Add(a, b)
	case api.KSub:
		made.Sub(a, b)
	case api.KMul:
		made.Mul(a, b)
	case api.KNeg:
		made.Neg(a)
	case api.KDiv:
		if isB {
			made.Quo(a, b)
		}
	case api.KMod:
		if isB {
			made.Sub(a, new(big.Int).Mul(b, new(big.Int).Quo(a, b)))
		}
	case api.KMin, api.KMax:
		made = a
		if a.Cmp(b) == map[int]int{api.KMin: 1, api.KMax: -1}[k] {
			made = b
		}
	case api.KLess:
		return one[a.Cmp(b) < 0]
	case api.KEq:
		return one[a.Cmp(b) == 0]
	case api.KAnd:
		return one[isA && isB]
	case api.KOr:
		return one[isA || isB]
	case api.KXor:
		return one[isA && !isB || isB && !isA]
	case api.KNot:
		return one[!isA]
	}
	return wrapped(made)
}

// P7.3: each operator of each two of many numbers.
func TestApplyToAll(t *testing.T) {
	for k := -1; k <= api.KNot+1; k++ {
		for _, a := range someNumbers() {
			for _, b := range someNumbers() {
				if got, want := Apply(k, a, b), saidApply(k, a, b); got != want {
					t.Errorf("%d of %d and %d: %d, want %d", k, a, b, got, want)
				}
			}
		}
	}
}

// P7.3: what is left over is what dividing leaves.
func TestApplyLeftOver(t *testing.T) {
	for _, a := range someNumbers() {
		for _, b := range someNumbers() {
			if q, r := Apply(api.KDiv, a, b), Apply(api.KMod, a, b); b != 0 && q*b+r != a {
				t.Errorf("%d by %d: %d, and %d left over", a, b, q, r)
			}
		}
	}
}

// P7.3: an operator of one is of a, whatever b is.
func TestApplyOfOne(t *testing.T) {
	for _, k := range []int{api.KNeg, api.KNot} {
		for _, a := range someNumbers() {
			for _, b := range someNumbers() {
				if got, want := Apply(k, a, b), Apply(k, a, 0); got != want {
					t.Errorf("%d of %d: %d, but with %d beside it %d", k, a, want, b, got)
				}
			}
		}
	}
}

// P7.3: of no operator 0.
func TestApplyOfNone(t *testing.T) {
	for _, k := range []int{0, -1, -13, -14, api.KNot + 1, api.KNot + 2, 99, 256, 257, 1 << 32, 1<<32 + 1, 1<<32 + api.KNot, greatest, least, least + 1} {
		for _, a := range someNumbers() {
			for _, b := range []int64{0, 1, -1, 7, least, greatest} {
				if got := Apply(k, a, b); got != 0 {
					t.Errorf("%d of %d and %d: %d, want 0", k, a, b, got)
				}
			}
		}
	}
}

// The chapter's example.
func TestApplyExample(t *testing.T) {
	if q, r := Apply(api.KDiv, -7, 2), Apply(api.KMod, -7, 2); q != -3 || r != -1 {
		t.Errorf("-7 by 2: %d, and %d left over", q, r)
	}
}
