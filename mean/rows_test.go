package mean

import (
	"fmt"
	"slices"
	"testing"

	"loomwork/api"
)

// The chapter's example: y = QPre of 5 and x.
func TestExample(t *testing.T) {
	s := over("i > i", pre(1, 2, 0), number(2, 5))
	s.Vars = append(s.Vars, types("i")...)
	wantRows(t, "5, then x", s, "1 > 5", "2 > 1", "3 > 2")
}

// P9.1: QPre of scalars: A[0] in the first row, then what A[1] was.
func TestPre(t *testing.T) {
	wantRows(t, "numbers", over("i i > i", pre(2, 0, 1)), "1 2 > 1", "3 4 > 2", "5 6 > 4", "- + > 6", "0 0 > +")
	wantRows(t, "the other way", over("i i > i", pre(2, 1, 0)), "1 2 > 2", "3 4 > 1", "5 6 > 3")
	wantRows(t, "truths", over("b b > b", pre(2, 0, 1)), "1 0 > 1", "1 1 > 0", "0 0 > 1", "1 1 > 0")
	wantRows(t, "of one twice", over("i > i", pre(1, 0, 0)), "1 > 1", "2 > 1", "3 > 2")
	wantRows(t, "of itself", over("i > i", pre(1, 0, 1)), "7 > 7", "8 > 7", "9 > 7")
	wantRows(t, "told as it is, too", over("i i > i", pre(2, 0, 1)), "0 0 > 0", "0 0 > 0", "7 0 > 0")
}

// P9.1: QPre of arrays.
func TestPreOfArrays(t *testing.T) {
	wantRows(t, "numbers", over("i3 i3 > i3", pre(2, 0, 1)), "1 2 3 4 5 6 > 1 2 3", "7 7 7 8 9 10 > 4 5 6", "0 0 0 0 0 0 > 8 9 10", "1 1 1 1 1 1 > 0 0 0")
	wantRows(t, "truths", over("b2 b2 > b2", pre(2, 0, 1)), "1 0 0 1 > 1 0", "1 1 0 0 > 0 1", "1 1 1 0 > 0 0")
	wantRows(t, "of one cell", over("i1 i1 > i1", pre(2, 0, 1)), "1 2 > 1", "3 4 > 2")
	s := over("i i i > i3 i3 i3", rule(api.QWith, 0, 3, 4, 0, 1), pre(4, 5, 3), rule(api.QFill, 0, 5, 2))
	s.Out = []int{3, 4}
	wantRows(t, "cells put in row by row", s, "0 5 9 > 5 9 9 9 9 9", "2 6 0 > 5 9 6 5 9 9", "1 7 0 > 5 7 6 5 9 6", "3 8 0 > 5 7 6 5 7 6")
}

// P9.1: several QPre, of each other, of one, and one behind the other.
func TestManyPre(t *testing.T) {
	s := over("i > i i i", pre(1, 0, 2), pre(2, 0, 1), pre(3, 0, 0))
	wantRows(t, "of each other", s, "5 > 5 5 5", "6 > 5 5 5", "7 > 5 5 6")
	s = over("i i > i i", pre(2, 0, 3), pre(3, 1, 2))
	wantRows(t, "to and fro", s, "1 2 > 1 2", "3 4 > 2 1", "5 6 > 1 2", "7 8 > 2 1")
	s = over("i i > i i i", pre(2, 1, 0), pre(3, 1, 2), pre(4, 1, 3))
	wantRows(t, "one behind the other", s, "1 -1 > -1 -1 -1", "2 -2 > 1 -1 -1", "3 -3 > 2 1 -1", "4 -4 > 3 2 1", "5 -5 > 4 3 2")
	s = over("i i > i i", pre(2, 0, 1), pre(3, 1, 1))
	wantRows(t, "of one, from two beginnings", s, "1 2 > 1 2", "3 4 > 2 2", "5 6 > 4 4")
	s = over("i i > i i i", pre(2, 3, 4), pre(3, 0, 1), pre(4, 1, 2))
	wantRows(t, "one begins with another", s, "1 2 > 1 1 2", "3 4 > 2 2 1", "5 6 > 1 4 2", "7 8 > 2 6 1")
	s = over("i > i i i", rule(api.QBin, api.KAdd, 1, 0, 2), pre(2, 3, 1), number(3, 0))
	wantRows(t, "a sum of rows", s, "3 > 3 0 0", "4 > 7 3 0", "5 > 12 7 0")
	s = over("> i i i i", pre(0, 2, 1), eachOf(1, sca(0), num(1), bin(api.KAdd)), number(2, 10), pre(3, 0, 3))
	wantRows(t, "a clock", s, "> 10 11 10 10", "> 11 12 10 10", "> 12 13 10 10")
	s = over("b > b b b", pre(1, 3, 2), rule(api.QUn, api.KNot, 2, 1), rule(api.QCopy, 0, 3, 0))
	wantRows(t, "by turns", s, "1 > 1 0 1", "1 > 0 1 1", "0 > 1 0 0", "0 > 0 1 0")
}

// P9.1: A[0] of a QPre counts in the first row alone, A[1] of that row in the next.
func TestPreManyRows(t *testing.T) {
	m := begun(t, over("i i2 i i2 > i i2", pre(4, 0, 2), pre(5, 1, 3)))
	want := cells("0 -1 -1")
	for i := int64(0); i < 2*api.MaxRows; i++ {
		wantTold(t, "many rows", m, []int64{i, -1, -1, i * i, i + 1, i + 2}, want)
		want = []int64{i * i, i + 1, i + 2}
	}
}

// P9.1: ErrRow at -1: too few or too many numbers.
func TestRowsOfOtherLengths(t *testing.T) {
	widths := map[string]int{"> i": 0, "i > i": 1, "i1 > i": 1, "b > i": 1, "i3 > i": 3, "i b3 i2 b > i": 7, "i300 b300 > i": 600}
	for text, width := range widths {
		s := over(text)
		s.Rules = []api.Rule{number(len(s.In), 4)}
		m := begun(t, s)
		for _, other := range []int{0, 1, 2, 3, 4, 6, 7, 8, 299, 300, 301, 599, 600, 601, 1 << 20} {
			if other != width {
				wantWrong(t, fmt.Sprint(text, " with ", other), m, make([]int64, other), -1)
			}
		}
		wantTold(t, text, m, make([]int64, width), []int64{4})
		if width > 0 {
			wantWrong(t, text, m, nil, -1)
			wantWrong(t, text, m, []int64{}, -1)
		}
		other := slices.Repeat([]int64{7}, width+1) // the number of cells is asked first
		wantWrong(t, text+" with one more, and no truths", m, other, -1)
	}
	m := begun(t, over("> i", number(0, 4)))
	wantTold(t, "nil", m, nil, []int64{4})
	wantTold(t, "empty", m, []int64{}, []int64{4})
}

// P9.1: ErrRow at its place: the first number for a truth that is none.
func TestRowsWithoutTruths(t *testing.T) {
	wrong := []int64{2, -1, 3, 256, 257, 1 << 32, 1<<32 + 1, -1 << 32, greatest, least, least + 1}
	s := over("i b2 i2 b b3 i > i", number(6, 4))
	isTruth := []bool{false, true, true, false, false, true, true, true, true, false}
	m := begun(t, s)
	for _, n := range wrong {
		for i := range isTruth {
			row := make([]int64, len(isTruth))
			row[i] = n
			if isTruth[i] {
				wantWrong(t, "one", m, row, i)
				for j := i + 1; j < len(row); j++ {
					row[j] = n
					wantWrong(t, "the first of several", m, row, i)
				}
			} else {
				wantTold(t, "a number", m, row, []int64{4})
			}
		}
		wantWrong(t, "all", m, slices.Repeat([]int64{n}, len(isTruth)), 1)
	}
	wantTold(t, "truths", m, cells("9 0 1 9 9 1 1 0 1 9"), []int64{4})
	long := begun(t, over("i300 b300 b300 > i", number(3, 4)))
	for _, i := range []int{300, 301, 599, 600, 899} {
		row := make([]int64, 900)
		row[i], row[899] = 2, 2
		wantWrong(t, "far", long, row, i)
	}
}

// P9.1: In's order is that in which it stands, not that of the variables' numbers;
// so is Out's, which may tell one twice, or one of In.
func TestInAndOut(t *testing.T) {
	s := api.System{Vars: types("i2 b i3 i"), In: []int{2, 1, 0}, Out: []int{0, 3, 2, 0, 1}, Rules: []api.Rule{number(3, 9)}}
	wantRows(t, "another order", s, "1 2 3 1 4 5 > 4 5 9 1 2 3 4 5 1", "1 2 3 4 5 0 ! 3", "1 1 1 1 1 ! -1")
	s.Out = nil
	wantRows(t, "nothing told", s, "1 2 3 1 4 5 >", "1 2 3 -1 4 5 ! 3")
	s.Out = slices.Repeat([]int{3}, api.MaxVars)
	wantTold(t, "one told often", begun(t, s), cells("1 2 3 1 4 5"), slices.Repeat([]int64{9}, api.MaxVars))
	wantRows(t, "nothing", api.System{}, ">", "1 ! -1", ">")
	wantRows(t, "what nobody makes", api.System{Vars: types("i b3"), In: []int{0}, Out: []int{0}}, "5 > 5")
	unused := api.System{Vars: types("i i b"), In: []int{0, 1, 2}, Out: []int{1}}
	wantRows(t, "In that nobody uses", unused, "5 6 1 > 6", "5 6 2 ! 2")
}

// P9.1: a row with a fault has not been: neither is it the first one, nor is it the
// row ahead of the next.
func TestRowsThatHaveNotBeen(t *testing.T) {
	s := over("i i b > i i b", pre(3, 0, 1), rule(api.QBin, api.KAdd, 4, 0, 3), pre(5, 2, 2))
	wantRows(t, "scalars", s,
		"! -1", "9 9 9 ! 2", "9 9 ! -1", "1 2 0 > 1 2 0", "9 9 2 ! 2", "9 9 1 1 ! -1", "3 4 1 > 2 5 0", "8 8 -1 ! 2", "8 8 7 ! 2", "! -1", "5 6 1 > 4 9 1", "7 8 0 > 6 13 1")
	s = over("i2 b2 i2 > i2 b2", pre(3, 0, 2), pre(4, 1, 1))
	wantRows(t, "arrays", s, "9 9 1 2 9 9 ! 3", "1 2 1 0 3 4 > 1 2 1 0", "9 9 1 -1 9 9 ! 3", "9 9 2 9 9 9 ! 2", "9 9 1 1 9 ! -1", "5 6 0 1 7 8 > 3 4 1 0", "1 1 1 1 1 ! -1", "0 0 0 0 0 0 > 7 8 0 1")
	s = over("i > i", pre(1, 0, 0))
	wantRows(t, "no row at all for long", s, "! -1", "1 2 ! -1", "! -1", "5 > 5", "! -1", "6 > 5", "1 2 ! -1", "7 > 6")
}
