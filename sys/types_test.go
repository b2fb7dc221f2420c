package sys

import (
	"fmt"
	"testing"

	"loomwork/api"
	"loomwork/kinds"
)

// fits are rows of types, the first one being of what is made.
type fits struct {
	op, k int
	n     int64
	right []string
	wrong []string
}

func (f fits) want(t *testing.T) {
	t.Helper()
	r := api.Rule{Op: f.op, K: f.k, N: f.n}
	for _, vars := range f.right {
		wantFit(t, vars, r, true)
	}
	for _, vars := range f.wrong {
		wantFit(t, vars, r, false)
	}
}

// P7.1: QNum makes a scalar; a truth of 0 or 1 alone.
func TestFitNum(t *testing.T) {
	for _, n := range []int64{0, 1} {
		fits{api.QNum, 0, n, []string{"i", "b"}, []string{"i1", "b1", "i300", "b300"}}.want(t)
	}
	for _, n := range []int64{-1, 2, 7, 256, 1 << 32, 1<<32 + 1, least, greatest} {
		fits{api.QNum, 0, n, []string{"i"}, []string{"b", "i1", "b1"}}.want(t)
	}
}

// P7.1: QCopy and QPre are of one type throughout.
func TestFitAlike(t *testing.T) {
	fits{api.QCopy, 0, 0, []string{"i i", "b b", "i3 i3", "b300 b300", "i1 i1"},
		[]string{"i b", "b i", "i3 b3", "i3 i", "i i3", "i3 i4", "i4 i3", "i i1", "b1 b"}}.want(t)
	fits{api.QPre, 0, 0, []string{"i i i", "b b b", "i3 i3 i3", "b1 b1 b1"},
		[]string{"b i i", "i b i", "i i b", "i3 i i", "i i3 i", "i i i3", "i i3 i3", "i3 i3 i4", "i3 i4 i3", "i4 i3 i3", "b3 i3 i3", "i3 b3 i3", "i3 i3 b3"}}.want(t)
}

// P7.1: QUn, QBin: cell by cell, of as many as K takes.
func TestFitOperator(t *testing.T) {
	fits{api.QUn, api.KNeg, 0, []string{"i i", "i1 i1", "i3 i3"}, []string{"b i", "i b", "b b", "i i3", "i3 i", "i3 i4", "b3 i3", "i3 b3", "b3 b3"}}.want(t)
	fits{api.QUn, api.KNot, 0, []string{"b b", "b1 b1", "b3 b3"}, []string{"i b", "b i", "i i", "b b3", "b3 b", "b3 b4", "i3 i3"}}.want(t)
	fits{api.QBin, api.KLess, 0, []string{"b i i", "b1 i1 i1", "b3 i3 i3"},
		[]string{"i i i", "b b i", "b i b", "b b b", "b3 i i", "b i3 i", "b i i3", "b3 i3 i", "b3 i i3", "b i3 i3", "b3 i3 i4", "b3 i4 i3", "b4 i3 i3", "i3 i3 i3"}}.want(t)
	fits{api.QBin, api.KAdd, 0, []string{"i i i", "i300 i300 i300"}, []string{"b i i", "i b i", "i i b", "b b b", "i i i1", "i i1 i", "i1 i i"}}.want(t)
	fits{api.QBin, api.KXor, 0, []string{"b b b", "b2 b2 b2"}, []string{"i b b", "b i b", "b b i", "i i i", "b b b2", "b b2 b", "b2 b b"}}.want(t)
}

// P7.1: QUn, QBin with each K, and with those that are none.
func TestFitOperators(t *testing.T) {
	for _, k := range append(upTo(-2, 20), 1<<32+api.KNeg, greatest, least) {
		takes, makes, n := kinds.Op(k)
		for _, size := range []string{"", "4"} {
			for _, out := range []byte("ib") {
				for _, of := range []byte("ib") {
					isRight := of == takes && out == makes
					wantFit(t, fmt.Sprintf("%c%s %c%s", out, size, of, size), api.Rule{Op: api.QUn, K: k}, isRight && n == 1)
					wantFit(t, fmt.Sprintf("%c%s %c%s %c%s", out, size, of, size, of, size), api.Rule{Op: api.QBin, K: k}, isRight && n == 2)
				}
			}
		}
	}
}

// P7.1: QIf: a scalar truth, and two that are as what is made.
func TestFitIf(t *testing.T) {
	fits{api.QIf, 0, 0, []string{"i b i i", "b b b b", "i3 b i3 i3", "b1 b b1 b1"},
		[]string{"i i i i", "i3 b3 i3 i3", "i b1 i i", "i b b i", "i b i b", "b b i i", "i b i i3", "i b i3 i", "i3 b i i", "i b i3 i3", "i3 b i3 i4", "i3 b i4 i3", "i4 b i3 i3", "b3 b i3 i3", "i3 b b3 i3", "i3 b i3 b3"}}.want(t)
}

// P7.1: QFold, QScan: from a scalar on over an array.
func TestFitFold(t *testing.T) {
	fits{api.QFold, api.KAdd, 0, []string{"i i i3", "i i i1", "i i i300"},
		[]string{"i i i", "i i3 i3", "i3 i i3", "b i i3", "i b i3", "i i b3", "b b b3", "i1 i i1", "i i1 i1"}}.want(t)
	fits{api.QFold, api.KOr, 0, []string{"b b b3"}, []string{"b b b", "i b b3", "b i b3", "b b i3", "i i i3"}}.want(t)
	fits{api.QScan, api.KAdd, 0, []string{"i3 i i3", "i1 i i1"},
		[]string{"i i i3", "i i i", "i3 i3 i3", "i3 i i4", "i4 i i3", "b3 i i3", "i3 b i3", "i3 i b3", "b3 b b3", "i3 i i"}}.want(t)
	fits{api.QScan, api.KOr, 0, []string{"b3 b b3"}, []string{"b b b3", "b b b", "i3 b b3", "b3 i b3", "b3 b i3", "i3 i i3"}}.want(t)
}

// P7.1: QFold, QScan, QFoldE, QScanE with each K: it must fold.
func TestFitFolds(t *testing.T) {
	for _, k := range append(upTo(-2, 20), 1<<32+api.KAdd, greatest, least) {
		takes, _, _ := kinds.Op(k)
		for _, elem := range []byte("ib") {
			isRight := kinds.Folds(k) && elem == takes
			e := string(elem)
			wantFit(t, e+" "+e+" "+e+"3", api.Rule{Op: api.QFold, K: k}, isRight)
			wantFit(t, e+"3 "+e+" "+e+"3", api.Rule{Op: api.QScan, K: k}, isRight)
			wantFit(t, e+" "+e+" "+e, api.Rule{Op: api.QFoldE, K: k, N: 4, E: []api.Push{sca(2)}}, isRight)
			wantFit(t, e+"3 "+e+" "+e, api.Rule{Op: api.QScanE, K: k, E: []api.Push{sca(2)}}, isRight)
		}
	}
}

// P7.1: QFill: an array of a scalar.
func TestFitFill(t *testing.T) {
	fits{api.QFill, 0, 0, []string{"i1 i", "i300 i", "b3 b"}, []string{"i i", "b b", "i3 b", "b3 i", "i3 i3", "i i3", "i1 i1"}}.want(t)
}

// P7.1: QIndex, QWith: an array, a place, and what is of its cells.
func TestFitIndex(t *testing.T) {
	fits{api.QIndex, 0, 0, []string{"i i3 i i", "b b3 i b", "i i1 i i"},
		[]string{"i i i i", "i i3 b i", "i i3 i3 i", "i i3 i i3", "i i3 i b", "b i3 i b", "b i3 i i", "i b3 i b", "i b3 i i", "i3 i3 i i", "b b3 b b", "b b i b", "i3 i3 i i3"}}.want(t)
	fits{api.QWith, 0, 0, []string{"i3 i3 i i", "b3 b3 i b", "i1 i1 i i"},
		[]string{"i i3 i i", "i i i i", "i3 i3 b i", "i3 i3 i3 i", "i3 i3 i i3", "i3 i3 i b", "b3 i3 i b", "b3 i3 i i", "i3 b3 i b", "i4 i3 i i", "i3 i4 i i", "b3 b3 b b", "b3 b3 i i"}}.want(t)
}

// P7.1: QSlice: N from 0 to how many more cells there are.
func TestFitSlice(t *testing.T) {
	fits{api.QSlice, 0, 0, []string{"i3 i3", "i2 i3", "i1 i3", "b2 b9", "i1 i1", "i300 i300"}, []string{"i4 i3", "i i3", "i3 i", "i i", "b2 i3", "i2 b3", "i2 i1"}}.want(t)
	fits{api.QSlice, 0, 1, []string{"i2 i3", "i1 i3", "i1 i2", "i299 i300"}, []string{"i3 i3", "i4 i3", "i1 i1", "i i3", "i i1", "i i", "i300 i300"}}.want(t)
	fits{api.QSlice, 0, 299, []string{"b1 b300"}, []string{"b2 b300", "b1 b299", "b b300", "i1 b300"}}.want(t)
	for _, n := range []int64{-1, -2, 300, 301, 1 << 32, 1<<32 + 1, -1 << 32, greatest, least} {
		fits{api.QSlice, 0, n, nil, []string{"i3 i3", "i2 i3", "i1 i300", "i300 i300", "i2 i1", "i300 i1", "i i3"}}.want(t)
	}
}

// P7.1: QCat: the cells of both together.
func TestFitCat(t *testing.T) {
	fits{api.QCat, 0, 0, []string{"i5 i2 i3", "b2 b1 b1", "i300 i299 i1", "i300 i1 i299", "i300 i150 i150"},
		[]string{"i4 i2 i3", "i6 i2 i3", "i2 i2 i", "i2 i i2", "i i i", "i i2 i3", "b5 i2 i3", "i5 b2 i3", "i5 i2 b3", "i5 b2 b3", "i1 i1 i", "i300 i150 i151", "i300 i300 i300"}}.want(t)
}

// P7.1: QEach: what its tree makes, in each cell, of a scalar in one.
func TestFitEach(t *testing.T) {
	wantEach := func(vars string, want bool, steps ...api.Push) {
		t.Helper()
		wantFit(t, vars, api.Rule{Op: api.QEach, E: steps}, want)
	}
	for _, size := range []string{"", "1", "300"} {
		wantEach("i"+size, true, num(7))
		wantEach("b"+size, false, num(1))
		wantEach("b"+size, true, truthOf(1))
		wantEach("i"+size, false, truthOf(1))
		wantEach("i"+size, false)
		wantEach("b"+size, false)
	}
	wantEach("i i1", true, arr(1, 0))
	wantEach("i i1", false, arr(1, 1))
	wantEach("i i3", true, arr(1, 2))
	wantEach("i i3", false, arr(1, 3))
	wantEach("i3 i3", true, arr(1, 0))
	wantEach("i3 i3", false, arr(1, 1))
	wantEach("i3 i2", false, arr(1, 0))
	wantEach("i3 i5", true, arr(1, 2))
	wantEach("i3 i5", false, arr(1, 3))
	wantEach("b3 i5", false, arr(1, 2))
}

// P7.1: QFoldE: a scalar, of N cells, from 1 to MaxArray.
func TestFitFoldE(t *testing.T) {
	want := func(vars string, k int, n int64, want bool, steps ...api.Push) {
		t.Helper()
		wantFit(t, vars, api.Rule{Op: api.QFoldE, K: k, N: n, E: steps}, want)
	}
	for _, n := range []int64{1, 2, 299, 300} {
		want("i i", api.KAdd, n, true, num(7))
		want("i b", api.KAdd, n, false, num(7))
		want("b i", api.KAdd, n, false, num(7))
		want("i1 i", api.KAdd, n, false, num(7))
		want("i i1", api.KAdd, n, false, num(7))
		want("i1 i1", api.KAdd, n, false, num(7))
		want("i i", api.KAdd, n, false, truthOf(1))
		want("b b", api.KAnd, n, true, truthOf(1))
		want("b b", api.KAnd, n, false, num(1))
		want("b b", api.KAdd, n, false, num(1))
		want("i i", api.KAnd, n, false, truthOf(1))
		want("i i", api.KAdd, n, false)
	}
	for _, n := range []int64{0, -1, 301, 302, 1 << 32, 1<<32 + 1, greatest, least} {
		want("i i", api.KAdd, n, false, num(7))
	}
	want("i i i5", api.KAdd, 5, true, arr(2, 0))
	want("i i i5", api.KAdd, 6, false, arr(2, 0))
	want("i i i5", api.KAdd, 3, true, arr(2, 2))
	want("i i i5", api.KAdd, 3, false, arr(2, 3))
}

// P7.1: QScanE: an array, in each of whose cells its tree makes one.
func TestFitScanE(t *testing.T) {
	want := func(vars string, k int, want bool, steps ...api.Push) {
		t.Helper()
		wantFit(t, vars, api.Rule{Op: api.QScanE, K: k, N: 99, E: steps}, want)
	}
	for _, size := range []string{"1", "3", "300"} {
		want("i"+size+" i", api.KAdd, true, num(7))
		want("b"+size+" b", api.KAnd, true, truthOf(0))
		want("i"+size+" b", api.KAdd, false, num(7))
		want("b"+size+" i", api.KAdd, false, num(7))
		want("i"+size+" i"+size, api.KAdd, false, num(7))
		want("i"+size+" i", api.KAdd, false, truthOf(1))
		want("b"+size+" b", api.KAnd, false, num(1))
		want("b"+size+" b", api.KAdd, false, num(1))
		want("i"+size+" i", api.KAnd, false, truthOf(1))
		want("i"+size+" i", api.KAdd, false)
	}
	want("i i", api.KAdd, false, num(7))
	want("b b", api.KAnd, false, truthOf(1))
	want("i3 i i5", api.KAdd, true, arr(2, 2))
	want("i3 i i5", api.KAdd, false, arr(2, 3))
	want("i5 i i5", api.KAdd, true, arr(2, 0))
	want("i6 i i5", api.KAdd, false, arr(2, 0))
}

// P7.1: every Op with every row of types of some, held against the chapter's
// words.
func TestFitAll(t *testing.T) {
	some := types("i b i1 b1 i2 b2 i3 b3")
	tree := []api.Push{num(1), arr(4, 1), bin(api.KMul)}
	right := map[int]int{}
	for op := api.QNum; op <= api.QScanE; op++ {
		operators := upTo(0, api.KNot+2)
		if counts[op] == 3 { // K is not looked at
			operators = []int{-1}
		}
		for _, k := range operators {
			for _, n := range []int64{-1, 0, 1, 2} {
				eachRow(some, counts[op]+1, func(row []api.Var) {
					for len(row) < 4 {
						row = append(row, api.Var{Elem: 'i'})
					}
					s := alone(append(row, api.Var{Elem: 'i', N: 3}), api.Rule{Op: op, K: k, N: n, E: tree})
					got, want := Check(s), said(s)
					if got != want {
						t.Errorf("%v, want %v: %v", got, want, s)
					}
					if want.Code == 0 {
						right[op]++
					}
				})
			}
		}
	}
	for op := api.QNum; op <= api.QScanE; op++ {
		if right[op] == 0 {
			t.Errorf("no row was right for the Op %d", op)
		}
	}
}

// eachRow hands each row of so many of the types to the function, in memory of
// its own.
func eachRow(of []api.Var, length int, do func([]api.Var)) {
	if length == 0 {
		do(nil)
		return
	}
	eachRow(of, length-1, func(row []api.Var) {
		for _, v := range of {
			longer := append(make([]api.Var, 0, 8), row...)
			do(append(longer, v))
		}
	})
}
