package code

import (
	"fmt"
	"slices"
	"testing"

	"loomwork/api"
)

// The chapter's example: 1 + 1 + 3 * 2 + 1.
func TestExample(t *testing.T) {
	l := []api.Ins{num(0, 0), loop(0, 3), move(0, 0), end(), store(0, 0)}
	wantCost(t, "the example", l, 9)
	m := api.Image{Cells: 1, Regs: 1, Cost: 9, Code: l}
	wantRight(t, "the example", m)
	m.Cost = 8
	wantFault(t, "the example, that costs less", m, api.ErrCode, -1)
}

// P16.1: each one is done once, whatever it is; no instructions cost nothing.
func TestCostOfEach(t *testing.T) {
	wantCost(t, "none", nil, 0)
	wantCost(t, "none", []api.Ins{}, 0)
	for _, op := range slices.Concat(ops(), noOps()) {
		want := 1
		if op == api.ILoop || op == api.IEnd {
			want = 0
		}
		for _, n := range []int64{0, 1, 2, 300, least, greatest} {
			i := api.Ins{Op: op, K: -1, R: -1, A: 99, B: -1, N: n}
			wantCost(t, fmt.Sprint("alone ", i), []api.Ins{i}, want)
			wantCost(t, fmt.Sprint("three of ", i), []api.Ins{i, i, i}, 3*want)
			wantCost(t, fmt.Sprint("in a loop ", i), []api.Ins{loop(-1, 7), i, end()}, 15*want)
		}
	}
}

// P16.1: what stands behind an ILoop is done N times, with its IEnd; what stands ahead of
// it, and behind that, once.
func TestCostOfLoops(t *testing.T) {
	for text, want := range map[string]int{
		"(1 )":                        2,
		"(2 )":                        3,
		"(300 )":                      301,
		"(1 . )":                      3,
		"(2 . )":                      5,
		"(300 . )":                    601,
		"(300 . . . . )":              1501,
		". (2 . )":                    6,
		"(2 . ) .":                    6,
		". . (1 . . ) . .":            8,
		"(2 ) (3 )":                   7,
		"(2 . ) (3 . ) (4 . . )":      25,
		". (2 ) . . (300 . ) . (1 )":  610,
		"(300 ) (300 ) (300 ) . . . ": 906,
	} {
		wantCost(t, text, shape(text), want)
	}
	for n := range 301 {
		for inside := range 5 {
			l := slices.Concat(shape(". "), []api.Ins{loop(0, int64(n))}, slices.Repeat(shape("."), inside), shape(") . ."))
			want := 0
			if n > 0 {
				want = 1 + 1 + n*(inside+1) + 2
			}
			wantCost(t, fmt.Sprint(n, " turns of ", inside), l, want)
		}
	}
}

// P16.1: 0, where loops do not stand rightly, be it behind many that do.
func TestCostOfNone(t *testing.T) {
	for _, text := range []string{
		")", ") .", ". )", ". . ) . .", ") (2 )", ") (2 . ) .", // an IEnd without an ILoop ahead
		"(2 ) )", "(2 . ) . )", "(2 ) . ) (2 )", "(2 ) ) (2 )", "(2 ) (2 ) )",
		"(2", "(2 . .", ". (1", "(2 ) (2", "(2 . ) . (300 . .", ". . . (1 .", // an ILoop without an IEnd
		"(2 (2 )", "(2 (2 ) )", "(2 . (2 . ) . )", "(1 (1 (1 ) ) )", "(2 ) (2 (2 ) )", "(2 (2 ) ) (2 )", // one within another
		") (2", ") )", "(2 (2", ") (2 (2 ) )",
		"(0 )", "(0 . )", ". (0 . ) .", "(2 ) (0 ) (2 )", "(301 )", "(301 . )", "(2 ) (301 )", "(-1 )", "(-2 . )", "(2 ) (-300 . ) .", // N
		"(9223372036854775807 )", "(-9223372036854775808 )", "(4294967296 . )", "(4294967297 . )", "(4294967298 )", "(18446744073709551 )",
		"(0", "(0 (0", "(301 (2 )", "(2 (0 ) )", ") (0 )",
	} {
		l := shape(text)
		wantCost(t, text, l, 0)
		for _, right := range []string{".", "(2 )", "(2 . ) .", ". . (300 . . ) ."} {
			wantCost(t, text+" behind "+right, slices.Concat(shape(right), l), 0)
		}
		wantFault(t, text, image(1, 1, l...), whatFault(l).Code, whatFault(l).At)
	}
}

// whatFault is ErrForm at the first ILoop whose N may not be, or ErrCode.
func whatFault(l []api.Ins) api.Fault {
	for at, i := range l {
		if i.Op == api.ILoop && (i.N < 1 || i.N > 300) {
			return api.Fault{Code: api.ErrForm, At: at}
		}
	}
	return api.Fault{Code: api.ErrCode, At: -1}
}

// P16.1: N from 1 to MaxArray.
func TestTurns(t *testing.T) {
	for _, n := range []int64{1, 2, 255, 256, 299, 300} {
		wantCost(t, fmt.Sprint("N ", n), []api.Ins{loop(0, n), num(0, 0), end()}, int(1+2*n))
	}
	for _, n := range []int64{0, -1, -2, -300, 301, 302, 512, 1 << 16, 1<<16 + 1, 1<<31 + 1, 1 << 32, 1<<32 + 1, 1<<32 + 300, 1 << 62, greatest, least, least + 1} {
		wantCost(t, fmt.Sprint("N ", n), []api.Ins{loop(0, n), num(0, 0), end()}, 0)
		wantCost(t, fmt.Sprint("N ", n, " behind"), []api.Ins{loop(0, 1), end(), loop(0, n), end()}, 0)
		wantCost(t, fmt.Sprint("N ", n, " ahead"), []api.Ins{loop(0, n), end(), loop(0, 1), end()}, 0)
	}
	for _, n := range []int64{0, 301, least, greatest} { // N of what is no ILoop
		wantCost(t, "N of others", []api.Ins{num(0, n), loop(0, 2), {Op: api.IEnd, N: n}, load(0, n)}, 5)
	}
}

// P16.1: all code of up to seven parts.
func TestAllShapes(t *testing.T) {
	parts := []api.Ins{num(0, 0), loop(0, 2), loop(0, 0), end()}
	rightOnes := 0
	var grow func(l []api.Ins)
	grow = func(l []api.Ins) {
		want := saidCost(l)
		if want > 0 {
			rightOnes++
		}
		wantCost(t, "a shape", l, want)
		if len(l) < 7 {
			for _, i := range parts {
				grow(append(slices.Clone(l), i))
			}
		}
	}
	grow(nil)
	if rightOnes < 100 {
		t.Errorf("%d of the shapes are right alone", rightOnes)
	}
}

// P16: code that may be run, and other code behind it, cost what both cost.
func TestBothCost(t *testing.T) {
	d := dice(3)
	for i := range 20000 {
		first, second := thrownCode(&d, 9), thrownCode(&d, 9)
		both := Cost(first) + Cost(second)
		if both == 0 {
			t.Fatalf("thrown %d: %v and %v cost nothing", i, first, second)
		}
		wantCost(t, "both", slices.Concat(first, second), both)
		wantCost(t, "the other way round", slices.Concat(second, first), both)
		wantCost(t, "and none", slices.Concat(first, nil, second, []api.Ins{}), both)
	}
}

// P16: a loop around code without loops costs one, and so many times what that costs and
// one.
func TestLoopAround(t *testing.T) {
	d := dice(4)
	for i := range 20000 {
		inside := slices.DeleteFunc(thrownCode(&d, 9), func(i api.Ins) bool { return i.Op == api.ILoop || i.Op == api.IEnd })
		n := 1 + d.below(300)
		l := slices.Concat([]api.Ins{loop(d.below(4), int64(n))}, inside, []api.Ins{end()})
		wantCost(t, fmt.Sprint("thrown ", i), l, 1+n*(Cost(inside)+1))
		wantCost(t, fmt.Sprint("thrown ", i, " within another"), slices.Concat([]api.Ins{loop(0, 2)}, l, []api.Ins{end()}), 0)
	}
}
