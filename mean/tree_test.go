package mean

import (
	"fmt"
	"slices"
	"testing"

	"loomwork/api"
	"loomwork/kinds"
	"loomwork/sys"
)

// P9.1: each step of trees, in each cell, and of a scalar.
func TestSteps(t *testing.T) {
	wantRows(t, "PNum", over("> i3", eachOf(0, num(-7))), "> -7 -7 -7")
	wantRows(t, "PNum, of a scalar", over("> i", eachOf(0, num(greatest))), "> +")
	wantRows(t, "PNum of truths", over("> b2 b2", eachOf(0, truth(1)), eachOf(1, truth(0))), "> 1 1 0 0")
	wantRows(t, "PSca", over("i > i3", eachOf(1, sca(0))), "4 > 4 4 4", "- > - - -")
	wantRows(t, "PSca of truths", over("b > b2", eachOf(1, sca(0))), "1 > 1 1", "0 > 0 0")
	wantRows(t, "PArr", over("i3 > i3", eachOf(1, arr(0, 0))), "4 5 6 > 4 5 6")
	wantRows(t, "PArr from 1 on", over("i3 > i2", eachOf(1, arr(0, 1))), "4 5 6 > 5 6")
	wantRows(t, "PArr of a scalar", over("i3 > i", eachOf(1, arr(0, 2))), "4 5 6 > 6")
	wantRows(t, "PArr of truths", over("b3 > b2", eachOf(1, arr(0, 1))), "1 0 1 > 0 1")
	wantRows(t, "PIdx", over("> i3", eachOf(0, idx(0))), "> 0 1 2")
	wantRows(t, "PIdx above", over("> i3", eachOf(0, idx(1000000))), "> 1000000 1000001 1000002")
	wantRows(t, "PIdx below", over("> i3", eachOf(0, idx(-1000000))), "> -1000000 -999999 -999998")
	wantRows(t, "PIdx of a scalar", over("> i", eachOf(0, idx(5))), "> 5")
	wantRows(t, "PUn", over("i3 > i3", eachOf(1, arr(0, 0), un(api.KNeg))), "4 -5 6 > -4 5 -6")
	wantRows(t, "PUn of truths", over("b3 > b3", eachOf(1, arr(0, 0), un(api.KNot))), "1 0 1 > 0 1 0")
	wantRows(t, "PBin", over("i3 > i3", eachOf(1, arr(0, 0), num(10), bin(api.KSub))), "4 5 6 > -6 -5 -4")
	wantRows(t, "PBin the other way", over("i3 > i3", eachOf(1, num(10), arr(0, 0), bin(api.KSub))), "4 5 6 > 6 5 4")
	wantRows(t, "PBin of a truth", over("i3 > b3", eachOf(1, arr(0, 0), num(5), bin(api.KLess))), "4 5 6 > 1 0 0")
	wantRows(t, "PSel", over("b2 i2 > i2", eachOf(2, arr(0, 0), arr(1, 0), num(-1), sel())), "1 0 7 8 > 7 -1", "0 1 7 8 > -1 8")
	wantRows(t, "PSel of truths", over("b b b > b", eachOf(3, sca(0), sca(1), sca(2), sel())), "1 1 0 > 1", "0 1 0 > 0", "1 0 1 > 0", "0 0 1 > 1")
}

// P9.1: PAt, with an index below, within and beyond the cells.
func TestAt(t *testing.T) {
	s := over("i3 > i7", eachOf(1, idx(-2), num(-9), at(0)))
	wantRows(t, "going over it", s, "4 5 6 > -9 -9 4 5 6 -9 -9")
	s = over("b2 i > b", eachOf(2, sca(1), truth(1), at(0)))
	wantRows(t, "truths", s, "0 1 0 > 0", "0 1 1 > 1", "0 0 2 > 1", "0 0 -1 > 1", "0 0 - > 1", "0 0 + > 1")
	s = over("i3 i3 > i3", eachOf(2, arr(1, 0), idx(50), at(0)))
	wantRows(t, "where the cells say", s, "4 5 6 2 0 1 > 6 4 5", "4 5 6 3 -1 1 > 50 51 5", "4 5 6 4294967296 -4294967295 2 > 50 51 6")
	for _, n := range []int{1, 2, 3, 300} {
		m := begun(t, over(fmt.Sprintf("i%d i i > i", n), eachOf(3, sca(1), sca(2), at(0))))
		var array []int64
		for k := range n {
			array = append(array, int64(100+k))
		}
		for k := range n {
			wantTold(t, "within", m, append(array[:n:n], int64(k), -9), []int64{int64(100 + k)})
		}
		for _, place := range outside(n) {
			wantTold(t, "outside", m, append(array[:n:n], place, -9), []int64{-9})
		}
	}
}

// P9.1: each operator as a step.
func TestOperatorsOfSteps(t *testing.T) {
	d := dice(5)
	for k := api.KAdd; k <= api.KNot; k++ {
		takes, makes, count := kinds.Op(k)
		for _, n := range []int{0, 1, 3, 300} {
			cells := max(1, n)
			v := api.Var{Elem: takes, N: cells}
			steps := []api.Push{arr(0, 0), arr(1, 0), bin(k)}
			if count == 1 {
				steps = []api.Push{arr(0, 0), un(k)}
			}
			s := api.System{Vars: []api.Var{v, v, {Elem: makes, N: n}}, In: []int{0, 1}, Out: []int{2}, Rules: []api.Rule{eachOf(2, steps...)}}
			m := begun(t, s)
			for range 20 {
				a, b := thrownCells(&d, v), thrownCells(&d, v)
				var want []int64
				for i := range a {
					want = append(want, sys.Apply(k, a[i], b[i]))
				}
				wantTold(t, fmt.Sprint("operator ", k, " of ", n), m, append(a, b...), want)
			}
		}
	}
}

// P9.1: steps take what lies on top, and leave what lies below.
func TestStacks(t *testing.T) {
	wantRows(t, "(a - b) - (c - d)", over("i i i i > i", eachOf(4, sca(0), sca(1), bin(api.KSub), sca(2), sca(3), bin(api.KSub), bin(api.KSub))), "100 1 30 20 > 89")
	wantRows(t, "a - (b - (c - d))", over("i i i i > i", eachOf(4, sca(0), sca(1), sca(2), sca(3), bin(api.KSub), bin(api.KSub), bin(api.KSub))), "100 1 30 20 > 109")
	wantRows(t, "a - PAt", over("i3 i > i3", eachOf(2, sca(1), idx(1), num(7), at(0), bin(api.KSub))), "1 2 3 100 > 98 97 93")
	wantRows(t, "a - PSel", over("b i > i", eachOf(2, sca(1), sca(0), num(1), num(2), sel(), bin(api.KSub))), "1 10 > 9", "0 10 > 8")
	wantRows(t, "a - PUn", over("i i > i", eachOf(2, sca(0), sca(1), un(api.KNeg), bin(api.KSub))), "10 3 > 13")
	deep := slices.Repeat([]api.Push{num(1)}, 12)
	deep = append(deep, slices.Repeat([]api.Push{bin(api.KAdd)}, 11)...)
	wantRows(t, "twelve deep", over("> i i2", eachOf(0, deep...), eachOf(1, append(deep, un(api.KNeg))...)), "> 12 -12 -12")
	choices := append(slices.Repeat([]api.Push{truth(0), num(5)}, 8), append([]api.Push{num(9)}, slices.Repeat([]api.Push{sel()}, 7)...)...)
	wantRows(t, "a choice that is left over", over("> i", eachOf(0, append(choices[2:], un(api.KNeg))...)), "> -9")
}

// P9.1: QFoldE and QScanE go over E for k from 0 on.
func TestFoldsOverTrees(t *testing.T) {
	foldE := func(k, out int, n int64, from int, steps ...api.Push) api.Rule {
		return api.Rule{Op: api.QFoldE, K: k, Out: out, N: n, A: []int{from}, E: steps}
	}
	scanE := func(k, out, from int, steps ...api.Push) api.Rule {
		return api.Rule{Op: api.QScanE, K: k, Out: out, A: []int{from}, E: steps}
	}
	wantRows(t, "QFoldE over k", over("i > i", foldE(api.KAdd, 1, 5, 0, idx(0))), "100 > 110", "0 > 10")
	wantRows(t, "QFoldE over one", over("i > i", foldE(api.KSub, 1, 1, 0, idx(3))), "100 > 97")
	wantRows(t, "QFoldE over 300", over("i > i", foldE(api.KAdd, 1, 300, 0, idx(1))), "0 > 45150")
	wantRows(t, "QFoldE of products", over("i i3 i3 > i", foldE(api.KAdd, 3, 3, 0, arr(1, 0), arr(2, 0), bin(api.KMul))), "0 1 2 3 4 5 6 > 32", "5 1 2 3 4 5 6 > 37")
	wantRows(t, "QFoldE over a part", over("i i5 > i", foldE(api.KAdd, 2, 2, 0, arr(1, 2))), "0 1 2 3 4 5 > 7")
	wantRows(t, "QFoldE, in order", over("i i3 > i", foldE(api.KDiv, 2, 3, 0, arr(1, 0))), "100 10 3 -7 > 0", "1000 2 10 5 > 10")
	wantRows(t, "QFoldE of truths", over("b b3 > b", foldE(api.KXor, 2, 3, 0, arr(1, 0))), "1 1 1 0 > 1", "0 1 1 1 > 1", "0 1 0 1 > 0")
	wantRows(t, "QScanE over k", over("i > i4", scanE(api.KSub, 1, 0, idx(0))), "100 > 100 99 97 94", "0 > 0 -1 -3 -6")
	wantRows(t, "QScanE over one", over("i > i1", scanE(api.KMul, 1, 0, num(7))), "6 > 42")
	wantRows(t, "QScanE of an array", over("i i4 > i3", scanE(api.KSub, 2, 0, arr(1, 1))), "100 9 10 3 -7 > 90 87 94")
	wantRows(t, "QScanE of truths", over("b b3 > b3", scanE(api.KAnd, 2, 0, arr(1, 0))), "1 1 0 1 > 1 0 0")
	for _, k := range upTo(api.KAdd, api.KNot+1) {
		if takes, _, _ := kinds.Op(k); kinds.Folds(k) {
			folds := over(fmt.Sprintf("%c %c4 > %c %c", takes, takes, takes, takes), foldE(k, 2, 4, 0, arr(1, 0)), rule(api.QFold, k, 3, 0, 1))
			scans := over(fmt.Sprintf("%c %c4 > %c4 %c4", takes, takes, takes, takes), scanE(k, 2, 0, arr(1, 0)), rule(api.QScan, k, 3, 0, 1))
			d := dice(k)
			for range 50 {
				row := append(thrownCells(&d, api.Var{Elem: takes}), thrownCells(&d, api.Var{Elem: takes, N: 4})...)
				holdAgainstSaid(t, fmt.Sprint("folds ", k), folds, [][]int64{row, row})
				holdAgainstSaid(t, fmt.Sprint("scans ", k), scans, [][]int64{row, row})
			}
		}
	}
}
