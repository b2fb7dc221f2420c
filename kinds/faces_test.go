package kinds

import (
	"math"
	"slices"
	"strings"
	"testing"

	"loomwork/api"
)

// The chapter's face: what each operator takes and makes.
func TestOp(t *testing.T) {
	two, one := 2, 1
	wants := []struct {
		first, last  int
		takes, makes byte
		n            int
		folds        bool
	}{
		{api.KAdd, api.KMax, 'i', 'i', two, true},
		{api.KLess, api.KEq, 'i', 'b', two, false},
		{api.KAnd, api.KXor, 'b', 'b', two, true},
		{api.KNeg, api.KNeg, 'i', 'i', one, false},
		{api.KNot, api.KNot, 'b', 'b', one, false},
	}
	asked := 0
	for _, w := range wants {
		for k := w.first; k <= w.last; k++ {
			takes, makes, n := Op(k)
			if takes != w.takes || makes != w.makes || n != w.n || Folds(k) != w.folds {
				t.Errorf("%d: %q %q %d, folds %v, want %q %q %d, %v", k, takes, makes, n, Folds(k), w.takes, w.makes, w.n, w.folds)
			}
			asked++
		}
	}
	if asked != api.KNot {
		t.Errorf("%d operators asked for, not %d", asked, api.KNot)
	}
}

// The chapter's face: numbers that are no operator.
func TestOpOfNone(t *testing.T) {
	for _, k := range []int{0, -1, -2, -14, api.KNot + 1, api.KNot + 2, 100, 255, 256, 257, 1 << 32, 1<<32 + 1, math.MaxInt, math.MinInt, math.MinInt + 1} {
		if takes, makes, n := Op(k); takes != 0 || makes != 0 || n != 0 || Folds(k) {
			t.Errorf("%d: %q %q %d, folds %v, want nothing", k, takes, makes, n, Folds(k))
		}
	}
}

func wantSame(t *testing.T, what string, a, b api.Type, want bool) {
	t.Helper()
	if Same(a, b) != want || Same(b, a) != want {
		t.Errorf("%s: %v and %v, want %v", what, Same(a, b), Same(b, a), want)
	}
}

// The chapter's face: types that are the same, and that are not.
func TestSame(t *testing.T) {
	ints := func(parts ...any) api.Type { return api.Type{Elem: 'i', N: sum(parts...)} }
	bools := func(parts ...any) api.Type { return api.Type{Elem: 'b', N: sum(parts...)} }
	wantSame(t, "scalars", ints(), ints(), true)
	wantSame(t, "truths", bools(), bools(), true)
	wantSame(t, "a number and a truth", ints(), bools(), false)
	wantSame(t, "nil and empty", ints(), api.Type{Elem: 'i', N: api.Size{}}, true)
	wantSame(t, "empty, with memory behind", ints(), api.Type{Elem: 'i', N: sum(2, "n")[:0]}, true)
	wantSame(t, "arrays", ints(2, ""), ints(2, ""), true)
	wantSame(t, "arrays of truths", bools(1, "n"), bools(1, "n"), true)
	wantSame(t, "cells of another kind", ints(2, ""), bools(2, ""), false)
	wantSame(t, "another number", ints(2, ""), ints(3, ""), false)
	wantSame(t, "another name", ints(1, "n"), ints(1, "m"), false)
	wantSame(t, "a name and a number", ints(1, "n"), ints(1, ""), false)
	wantSame(t, "a scalar and an array of one", ints(), ints(1, ""), false)
	wantSame(t, "a scalar and an array of none", ints(), ints(0, ""), false)
	wantSame(t, "a scalar and an array that comes to none", ints(), ints(1, "n", -1, "n"), false)
	wantSame(t, "arrays of none", ints(0, ""), ints(1, "n", -1, "n"), true)
	wantSame(t, "another order", ints(1, "n", 2, "", 3, "m"), ints(3, "m", 1, "n", 2, ""), true)
	wantSame(t, "another writing", ints(5, "n", -2, "", -3, "n", 0, "m"), ints(2, "n", 1, "", -3, ""), true)
	wantSame(t, "sums beyond", ints(1000000, "n", 1000000, "n"), ints(1000000, "n", 500000, "n", 500000, "n"), true)
	wantSame(t, "other types than there are", api.Type{Elem: 7}, api.Type{Elem: 7}, true)
	wantSame(t, "another one of them", api.Type{}, api.Type{Elem: 7}, false)
}

// The chapter's face: arrays whose size has no normal form are not the same,
// not even as themselves.
func TestSameWithoutForm(t *testing.T) {
	for _, n := range []int{1000001, -1000001, math.MaxInt64, math.MinInt64} {
		bad := api.Type{Elem: 'i', N: sum(1, "n", n, "")}
		wantSame(t, "a number beyond", bad, bad, false)
		wantSame(t, "a number beyond, and none", bad, api.Type{Elem: 'i', N: sum(1, "n")}, false)
		wantSame(t, "a number beyond, and a scalar", bad, api.Type{Elem: 'i'}, false)
	}
	many := func(count int) api.Type {
		return api.Type{Elem: 'b', N: slices.Repeat(sum(0, strings.Repeat("n", 1<<10)), count)}
	}
	wantSame(t, "1000 terms", many(1000), api.Type{Elem: 'b', N: sum(0, "")}, true)
	wantSame(t, "1001 terms", many(1001), many(1001), false)
	wantSame(t, "far more", many(1<<20), many(1<<20), false)
}
