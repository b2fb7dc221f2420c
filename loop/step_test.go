package loop

import (
	"fmt"
	"slices"
	"testing"

	"loomwork/api"
)

// stepOf is a step of an Op that is right, if Op, N and To are.
func stepOf(op, to, n int) api.Loop {
	return api.Loop{Op: op, K: api.KAdd, N: n, To: to, F: tree("1"), E: tree("k")}
}

// steppers are the four Ops.
func steppers() []int { return []int{api.LOne, api.LEach, api.LFold, api.LScan} }

// P14.1: Op is one of the four.
func TestOps(t *testing.T) {
	for op := -3; op < 20; op++ {
		wantStep(t, fmt.Sprint("Op ", op), 3, stepOf(op, 1, 2), op >= 1 && op <= 4)
	}
	for _, op := range []int{1 << 32, 1<<32 + 1, 1<<32 + 4, greatest, least, least + 1} {
		wantStep(t, fmt.Sprint("Op ", op), 3, stepOf(op, 1, 2), false)
	}
}

// P14.1: N is from 1 to MaxArray; that of an LOne is not looked at.
func TestTurns(t *testing.T) {
	for _, op := range steppers() {
		for _, n := range []int{1, 2, 299, 300} {
			wantStep(t, fmt.Sprint("Op ", op, " N ", n), 400, stepOf(op, 0, n), true)
		}
		for _, n := range []int{0, -1, -300, 301, 302, 400, 401, 6000, 1 << 32, 1<<32 + 1, greatest, least} {
			wantStep(t, fmt.Sprint("Op ", op, " N ", n), 400, stepOf(op, 0, n), op == api.LOne)
			wantStep(t, fmt.Sprint("Op ", op, " N ", n), 6000, stepOf(op, 5, n), op == api.LOne)
		}
	}
	for _, n := range []int{0, -1, 1, 3, 301, greatest, least} {
		s := one(4, "a4 k add")
		s.N = n
		m := wantRows(t, fmt.Sprint("LOne with N ", n), over(5, "4 > 4", s), "8 > 8")
		wantSame(t, "cells", m.Cells(), numbers("0 0 0 0 8"))
	}
}

// P14.1: the cells that a step makes are there: of an LEach and an LScan N of them.
func TestTo(t *testing.T) {
	for _, cells := range []int{1, 2, 7, 300, 301, 6000} {
		for _, n := range []int{1, 2, 7, 299, 300} {
			for _, op := range steppers() {
				made := 1
				if op == api.LEach || op == api.LScan {
					made = n
				}
				what := fmt.Sprint(cells, " cells, Op ", op, " N ", n)
				wantStep(t, what+" to the last one", cells, stepOf(op, cells-made, n), made <= cells)
				wantStep(t, what+" to the first one", cells, stepOf(op, 0, n), made <= cells)
				for _, to := range []int{cells - made + 1, cells, cells + 1, -1, -n, 1 << 32, greatest, greatest - n, least, least + n} {
					wantStep(t, fmt.Sprint(what, " to ", to), cells, stepOf(op, to, n), false)
				}
			}
		}
	}
	for _, op := range steppers() {
		m := begun(t, over(9, ">", stepOf(op, 6, 3)))
		wantRow(t, "the last cells", m, ">")
		want := map[int]string{api.LOne: "0 0 0", api.LEach: "0 1 2", api.LFold: "4 0 0", api.LScan: "1 2 4"}[op]
		wantSame(t, fmt.Sprint("Op ", op, ": the last cells"), m.Cells()[6:], numbers(want))
	}
}

// P14.1: E is a tree for N cells, of an LOne for one.
func TestTreeOfStep(t *testing.T) {
	for _, op := range steppers() {
		for _, n := range []int{1, 2, 3, 4} {
			reads := n
			if op == api.LOne {
				reads = 1
			}
			for v := -1; v < 11; v++ {
				s := stepOf(op, 0, n)
				s.E = []api.Push{arr(v)}
				wantStep(t, fmt.Sprint("Op ", op, " N ", n, " reads from ", v, " on"), 10, s, v >= 0 && v+reads <= 10)
				s.E = []api.Push{sca(v)}
				wantStep(t, fmt.Sprint("Op ", op, " N ", n, " reads ", v), 10, s, v >= 0 && v < 10)
			}
		}
		for text, isTree := range map[string]bool{"": false, "1": true, "1 1": false, "add": false, "1 neg": true} {
			s := stepOf(op, 0, 2)
			s.E = tree(text)
			wantStep(t, fmt.Sprint("Op ", op, " of ", text), 10, s, isTree)
		}
	}
}

// P14.1: F of an LFold and an LScan is a tree for one cell; that of the others is not
// looked at.
func TestFirst(t *testing.T) {
	for _, op := range steppers() {
		isFolding := op == api.LFold || op == api.LScan
		for _, text := range []string{"1", "k", "a0", "a9", "c9", "k1 neg", "0 1 t0,10", "1 2 3 sel"} {
			s := stepOf(op, 0, 4)
			s.F = tree(text)
			wantStep(t, fmt.Sprint("Op ", op, " from ", text), 10, s, true)
		}
		for _, text := range []string{"", "1 1", "add", "1 add", "a10", "a-1", "c10", "c-1", "0 1 t0,11", "0 1 t0,0", "k1000000000000000001"} {
			s := stepOf(op, 0, 4)
			s.F = tree(text)
			wantStep(t, fmt.Sprint("Op ", op, " from ", text), 10, s, !isFolding)
		}
		s := stepOf(op, 0, 4)
		s.F = append(tree("1"), slices.Repeat([]api.Push{un(api.KNeg)}, 23)...)
		wantStep(t, fmt.Sprint("Op ", op, " from most steps"), 10, s, true)
		s.F = append(s.F, un(api.KNeg))
		wantStep(t, fmt.Sprint("Op ", op, " from one step more"), 10, s, !isFolding)
	}
}

// P14.1: K of an LFold and an LScan takes two, be it of numbers to a truth; that of the
// others is not looked at.
func TestOperatorOfStep(t *testing.T) {
	ks := append(upTo(-3, 20), 1<<32, 1<<32+api.KAdd, greatest, least, least+api.KAdd)
	for _, op := range steppers() {
		for _, k := range ks {
			s := stepOf(op, 0, 4)
			s.K = k
			isRight := op == api.LOne || op == api.LEach || k >= api.KAdd && k <= api.KXor
			wantStep(t, fmt.Sprint("Op ", op, " K ", k), 10, s, isRight)
		}
	}
}

// P14: K and F of an LOne and an LEach, and N of an LOne, are not looked at, nor do they
// change what is told.
func TestFieldsOfOthers(t *testing.T) {
	for _, k := range []int{-1, 0, api.KNeg, api.KAdd, 99, greatest, least} {
		for _, f := range [][]api.Push{nil, {}, tree("1"), tree("add"), {{Op: 99, V: least}}, slices.Repeat(tree("c0"), 1<<10)} {
			single, all := one(3, "c0 1 add"), each(4, 2, "a0 2 add")
			single.K, single.F, single.N = k, f, k
			all.K, all.F = k, f
			l := over(6, "0 1 > 3 4 5", single, all)
			wantRows(t, fmt.Sprint("K ", k, " and ", len(f), " steps of F"), l, "5 6 > 6 7 8", "0 0 > 1 2 2")
		}
	}
}
