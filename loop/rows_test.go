package loop

import (
	"fmt"
	"slices"
	"testing"

	"loomwork/api"
	"loomwork/sys"
)

// The chapter's example.
func TestExample(t *testing.T) {
	l := over(3, "1 > 2", one(2, "c1 c0 add"), one(0, "7"))
	wantRows(t, "example", l, "5 > 5", "5 > 12")
}

// P14.2: what is given comes to lie at Put, the first at the first; of one cell that
// stands there twice the later one counts.
func TestPut(t *testing.T) {
	m := wantRows(t, "apart", over(5, "3 0 4 >"), "7 8 9 >")
	wantSame(t, "apart", m.Cells(), numbers("8 0 0 7 9"))
	m = wantRows(t, "twice", over(4, "1 2 1 > 1 2"), "5 6 7 > 7 6", "7 6 5 > 5 6")
	wantSame(t, "twice", m.Cells(), numbers("0 5 6 0"))
	m = wantRows(t, "again and again", over(2, "1 1 0 1 1 > 1 0"), "1 2 3 4 5 > 5 3", "5 4 3 2 0 > 0 3")
	wantSame(t, "again and again", m.Cells(), numbers("3 0"))
	wantRows(t, "twice, and a step", over(3, "0 0 > 1", one(1, "c0 10 mul")), "3 4 > 40")
}

// P14.2: what comes lies at Get then, behind all steps.
func TestGet(t *testing.T) {
	wantRows(t, "twice", over(4, "1 2 > 2 1 2 2", one(2, "c1 c2 add")), "5 6 > 11 5 11 11")
	wantRows(t, "what was given", over(3, "0 1 > 0 1 2"), "5 6 > 5 6 0")
	wantRows(t, "what was given is made anew", over(3, "0 1 > 0 1 2", one(1, "c0"), one(0, "9")), "5 6 > 9 5 0")
	wantRows(t, "the same at Put and Get", over(1, "0 > 0", one(0, "c0 neg")), "5 > -5", "- > -")
}

// P14.2: the steps are done one behind the other.
func TestOrder(t *testing.T) {
	wantCells(t, "one behind the other", "3", "3 4 8 8", one(1, "c0 1 add"), one(2, "c1 2 mul"), one(3, "c2"))
	wantCells(t, "the other way round", "3", "3 4 0 0", one(3, "c2"), one(2, "c1 2 mul"), one(1, "c0 1 add"))
	wantCells(t, "the same cell again", "3", "7", one(0, "c0 1 add"), one(0, "c0 2 mul"), one(0, "c0 1 sub"))
	wantCells(t, "of all Ops", "1 2 3", "6 8 10 24 5 15 39",
		each(0, 3, "a0 4 add 1 add"), one(0, "6"), each(1, 2, "a1 k1 add"), each(1, 2, "a1 k0 sub"),
		each(1, 2, "8 k 2 mul add"), fold(api.KAdd, 3, 3, "0", "a0"), scan(api.KMul, 4, 2, "c0 1 sub", "k 2 mul 1 add"),
		one(6, "c3 c5 add"))
}

// P14.2: LOne: the cell becomes E; k is 0.
func TestOne(t *testing.T) {
	wantCells(t, "a number", "", "0 5 0", one(1, "5"))
	wantCells(t, "k is 0", "4 6", "4 6 0", one(2, "k"))
	wantCells(t, "k + N", "4 6", "4 6 -9", one(2, "k-9"))
	wantCells(t, "PArr is its cell", "4 6", "4 6 6", one(2, "a1"))
	wantCells(t, "of itself", "4 6", "10 6", one(0, "c0 c1 add"))
	s := one(2, "c2 1 add a2 k mul add")
	s.N = 5
	wantCells(t, "once, whatever N is", "4 6 8", "4 6 9", s)
}

// P14.2: LEach: each cell becomes E, as things are then.
func TestEach(t *testing.T) {
	wantCells(t, "k", "", "0 0 1 2 0", each(1, 3, "k"))
	wantCells(t, "k + N", "", "5 6 7 8 0", each(0, 4, "k5"))
	wantCells(t, "of the same cell", "1 2 3 4", "2 4 6 4", each(0, 3, "a0 2 mul"))
	wantCells(t, "of cells that it has made", "10", "10 11 12 13 14", each(1, 4, "a0 1 add"))
	wantCells(t, "of cells that it has made, two back", "1 1", "1 1 2 3 5 8 13", each(2, 5, "a0 a1 add"))
	wantCells(t, "of cells that it will make", "1 2 3 4 5", "2 3 4 5 5", each(0, 4, "a1"))
	wantCells(t, "of cells behind those", "1 2 3 4 5", "3 4 5 4 5", each(0, 3, "a2"))
	wantCells(t, "of the first cell", "5", "6 7 7", each(0, 3, "c0 1 add"))
	wantCells(t, "of the cell in the middle", "1 5", "6 6 7 0", each(0, 3, "c1 1 add"))
	wantCells(t, "of the last cell", "1 5 8", "9 9 9", each(0, 3, "c2 1 add"))
	wantCells(t, "of the last cell, backward", "1 2 3 4", "4 3 3 4", each(0, 4, "3 k sub 99 t0,4"))
	wantCells(t, "of the cell at a number", "2 0 1", "1 0 1 1 0 1", each(3, 3, "a0 9 t3,3 1 add 2 mod"), each(0, 1, "1"))
	wantCells(t, "one cell", "7", "7 14", each(1, 1, "a0 2 mul"))
	l := over(301, "> 1 300", each(0, 300, "a1 1 add"))
	m := wantRows(t, "300 cells", l, "> 1 0", "> 2 0", "> 3 0")
	wantSame(t, "300 cells", m.Cells()[297:], numbers("3 2 1 0"))
	l = over(301, "0 > 1 2 299 300", each(1, 300, "a0 1 add"))
	wantRows(t, "300 cells, one of the other", l, "0 > 1 2 299 300", "+ > -9223372036854775808 -9223372036854775807 -9223372036854775510 -9223372036854775509")
}

// P14.2: LFold: the cell becomes at last what K made of F and of E at each turn.
func TestFold(t *testing.T) {
	wantCells(t, "sum", "1 2 3 4", "1 2 3 4 110", fold(api.KAdd, 4, 4, "100", "a0"))
	wantCells(t, "what is so far stands first", "1 2 3 4", "1 2 3 4 90", fold(api.KSub, 4, 4, "100", "a0"))
	wantCells(t, "rising", "7 3 2", "7 3 2 71", fold(api.KDiv, 3, 3, "3000", "a0"))
	wantCells(t, "one turn", "7", "12", fold(api.KAdd, 0, 1, "5", "a0"))
	wantCells(t, "of k", "", "15", fold(api.KAdd, 0, 5, "0", "k1"))
	wantCells(t, "F is not that of k", "4 5 6", "4 5 6 12", fold(api.KAdd, 3, 3, "a1 k7 add", "0"))
	wantCells(t, "of the cell To, as it was", "5", "15", fold(api.KAdd, 0, 3, "0", "c0"))
	wantCells(t, "of the cell To among others", "1 5 2", "1 8 2", fold(api.KAdd, 1, 3, "0", "a0"))
	wantCells(t, "of the cell To at a number", "1 5 2", "1 11 2", fold(api.KAdd, 1, 3, "0", "k 1 min 9 t0,3"))
	wantCells(t, "F of the cell To", "5 6", "11 6", fold(api.KAdd, 0, 1, "c0", "c1"))
	wantCells(t, "F and E of the cell To", "5 6", "20 6", fold(api.KAdd, 0, 3, "c0", "c0"))
	wantCells(t, "F of cells", "2 3 4", "2 3 4 15", fold(api.KAdd, 3, 3, "c0 c1 mul", "a0"), one(3, "c3"))
	wantCells(t, "F of the cell at a number", "2 3 4", "2 3 4 104", fold(api.KAdd, 3, 2, "2 9 t0,3", "50"))
	wantCells(t, "a truth", "5 9", "1 9", fold(api.KLess, 0, 2, "3", "a0"))
	wantCells(t, "another truth", "3 0", "1 0", fold(api.KEq, 0, 2, "3", "a0 2 mul"))
	wantCells(t, "of no truths", "5 -2", "1 -2", fold(api.KAnd, 0, 2, "7", "a0"))
	wantCells(t, "300 turns", "", "0 44850", fold(api.KAdd, 1, 300, "0", "k"))
}

// P14.2: LScan: each cell becomes what is so far, as soon as it is made.
func TestScan(t *testing.T) {
	wantCells(t, "sums", "1 2 3 4", "1 2 3 4 101 103 106 110", scan(api.KAdd, 4, 4, "100", "a0"))
	wantCells(t, "what is so far stands first", "1 2 3", "99 97 94", scan(api.KSub, 0, 3, "100", "a0"))
	wantCells(t, "one turn", "7", "12 0", scan(api.KAdd, 0, 1, "5", "a0"))
	wantCells(t, "of the cell To", "5", "6 12 18", scan(api.KAdd, 0, 3, "1", "c0"))
	wantCells(t, "of the last cell that it makes", "1 1 5", "6 11 16", scan(api.KAdd, 0, 3, "1", "c2"))
	wantCells(t, "of cells that it has made", "5", "5 6 12 24 48", scan(api.KAdd, 1, 4, "1", "a0"))
	wantCells(t, "of cells that it will make", "1 2 3 4", "2 5 9 4", scan(api.KAdd, 0, 3, "0", "a1"))
	wantCells(t, "of the cell at a number", "0 5 1 0", "1 2 4 8", scan(api.KAdd, 0, 4, "1", "k 1 sub 0 t0,4"))
	wantCells(t, "F of the cell To", "5 6 7", "10 16 23", scan(api.KAdd, 0, 3, "c0", "a0"))
	wantCells(t, "F of a cell that it makes", "5 6 7", "12 18 25", scan(api.KAdd, 0, 3, "c2", "a0"))
	wantCells(t, "F is not that of k", "4 5 6", "5 5 5", scan(api.KAdd, 0, 3, "a1 k add", "0"))
	wantCells(t, "truths", "5 0 1", "1 0 1", scan(api.KLess, 0, 3, "3", "a0"))
	wantCells(t, "on from another one", "1 2 3", "1 3 6 11 13 16", scan(api.KAdd, 3, 3, "10", "a0"), scan(api.KAdd, 0, 3, "0", "a0"))
	l := over(301, "0 > 1 2 300", scan(api.KMul, 1, 300, "c0", "2"))
	wantRows(t, "300 cells", l, "1 > 2 4 0", "0 > 0 0 0")
	l = over(301, "0 > 1 2 299 300", scan(api.KAdd, 1, 300, "c0", "1"))
	wantRows(t, "300 cells, rising", l, "0 > 1 2 299 300", "-300 > -299 -298 -1 0")
}

// P14: each operator, of numbers of all kinds, as chapter 7's Apply: in trees and in
// folds.
func TestOperators(t *testing.T) {
	for k := api.KAdd; k <= api.KXor; k++ {
		l := over(9, "0 1 > 2 3 4 5", one(2, "c0 c1"), fold(k, 3, 1, "c0", "c1"), scan(k, 4, 2, "c0", "c1"))
		l.Steps[0].E = append(l.Steps[0].E, bin(k))
		m := wantRight(t, fmt.Sprint("K ", k), l)
		for _, a := range someNumbers() {
			for _, b := range someNumbers() {
				n := sys.Apply(k, a, b)
				wantTold(t, fmt.Sprint("K ", k), m, []int64{a, b}, []int64{n, n, n, sys.Apply(k, n, b)})
			}
		}
	}
	for _, k := range []int{api.KNeg, api.KNot} {
		m := wantRight(t, fmt.Sprint("K ", k), over(9, "0 > 2", api.Loop{Op: api.LOne, To: 2, E: append(tree("c0"), un(k))}))
		for _, a := range someNumbers() {
			wantTold(t, fmt.Sprint("K ", k), m, []int64{a}, []int64{sys.Apply(k, a, 0)})
		}
	}
}

// P14.2: numbers wrap round, from the greatest to the least and back.
func TestWrap(t *testing.T) {
	wantRows(t, "add", over(3, "0 1 > 2", one(2, "c0 c1 add")), "+ 1 > -", "- -1 > +", "+ + > -2", "- - > 0")
	wantRows(t, "sub", over(3, "0 1 > 2", one(2, "c0 c1 sub")), "- 1 > +", "+ -1 > -", "0 - > -", "-2 + > +")
	wantRows(t, "mul", over(3, "0 1 > 2", one(2, "c0 c1 mul")), "+ 2 > -2", "4294967296 4294967296 > 0", "- -1 > -", "3037000500 3037000500 > -9223372036709301616")
	wantRows(t, "div", over(3, "0 1 > 2", one(2, "c0 c1 div")), "- -1 > -", "7 0 > 0", "-7 2 > -3")
	wantRows(t, "mod", over(3, "0 1 > 2", one(2, "c0 c1 mod")), "- -1 > 0", "7 0 > 0", "-7 2 > -1")
	wantRows(t, "neg", over(3, "0 > 2", one(2, "c0 neg")), "- > -", "+ > -9223372036854775807")
	wantRows(t, "each", over(4, "0 > 1 2 3", each(1, 3, "c0 k add")), "+ > + - -9223372036854775807")
	wantRows(t, "fold", over(4, "0 > 1", fold(api.KAdd, 1, 3, "c0", "1")), "+ > -9223372036854775806", "0 > 3")
	wantRows(t, "scan", over(4, "0 > 1 2 3", scan(api.KMul, 1, 3, "c0", "4294967296")), "1 > 4294967296 0 0")
	wantRows(t, "of k", over(2, "> 0 1", each(0, 2, "k1000000000000000000 10 mul")), "> -8446744073709551616 -8446744073709551606")
}

// P14: PIdx is k + N, also far from 0.
func TestIndex(t *testing.T) {
	wantRows(t, "up", over(4, "> 0 1 2", each(0, 3, "k1000000000000000000")), "> 1000000000000000000 1000000000000000001 1000000000000000002")
	wantRows(t, "down", over(4, "> 0 1 2", each(0, 3, "k-1000000000000000000")), "> -1000000000000000000 -999999999999999999 -999999999999999998")
	wantRows(t, "over 0", over(4, "> 0 1 2", each(0, 3, "k-1")), "> -1 0 1")
}

// P14: PAt: of N cells from V on the one at the number; or else, if there is none of
// them, the other one.
func TestAt(t *testing.T) {
	l := over(8, "0 1 2 3 4 5 > 7", one(7, "c0 c1 t2,3"))
	wantRows(t, "three cells", l,
		"0 9 5 6 7 8 > 5", "1 9 5 6 7 8 > 6", "2 9 5 6 7 8 > 7", "3 9 5 6 7 8 > 9", "-1 9 5 6 7 8 > 9", "-2 9 5 6 7 8 > 9",
		"4 9 5 6 7 8 > 9", "- 9 5 6 7 8 > 9", "+ 9 5 6 7 8 > 9", "4294967296 9 5 6 7 8 > 9", "-4294967296 9 5 6 7 8 > 9", "3 - 5 6 7 8 > -", "1 0 5 6 7 8 > 6")
	wantRows(t, "one cell", over(4, "0 1 > 3", one(3, "c0 9 t1,1")), "0 5 > 5", "1 5 > 9", "-1 5 > 9")
	wantRows(t, "the last cells", over(4, "0 1 > 1", one(1, "c0 c1 t2,2")), "0 5 > 0", "1 5 > 0", "2 5 > 5", "-1 5 > 5")
	wantRows(t, "all cells", over(4, "0 1 > 0 1 2 3", one(3, "c0 9 t0,4")), "0 5 > 0 5 0 0", "1 5 > 1 5 0 5", "3 6 > 3 6 0 5", "4 6 > 4 6 0 9")
	wantRows(t, "the number stands under the other one", over(4, "0 1 > 3", one(3, "c0 c1 t0,3")), "1 2 > 2", "2 1 > 0")
	wantCells(t, "by turns", "5 6 7 8", "5 6 7 8 9 5 6 7 8 9", each(4, 6, "k-1 9 t0,4"))
	all := over(6000, "0 > 5998", one(5998, "c0 -1 t0,6000"), one(5999, "c0 1 add"))
	wantRows(t, "of 6000", all, "5999 > 0", "5999 > 6000", "5998 > 6000", "6000 > -1", "0 > 0")
}

// P14: PSel: the second of three, if the first is not 0, else the third.
func TestSelect(t *testing.T) {
	l := over(4, "0 1 2 > 3", one(3, "c0 c1 c2 sel"))
	wantRows(t, "choice", l, "0 5 6 > 6", "1 5 6 > 5", "2 5 6 > 5", "-1 5 6 > 5", "- 5 6 > 5", "+ 5 6 > 5", "4294967296 5 6 > 5", "1 0 6 > 0", "0 5 0 > 0")
	wantRows(t, "choice in a choice", over(4, "0 1 2 > 3", one(3, "c0 c1 7 8 sel c2 9 10 sel sel")), "0 0 0 > 10", "0 0 1 > 9", "1 0 0 > 8", "1 1 0 > 7")
}

// P14: operators of truths take any number: all but 0 is true.
func TestTruths(t *testing.T) {
	wantRows(t, "not", over(2, "0 > 1", one(1, "c0 not")), "0 > 1", "1 > 0", "2 > 0", "-1 > 0", "- > 0")
	wantRows(t, "and, or, xor", over(5, "0 1 > 2 3 4", one(2, "c0 c1 and"), one(3, "c0 c1 or"), one(4, "c0 c1 xor")),
		"0 0 > 0 0 0", "2 0 > 0 1 1", "0 -1 > 0 1 1", "2 4 > 1 1 0", "- + > 1 1 0")
}

// P14.2: cells stay till the next row.
func TestStay(t *testing.T) {
	m := wantRows(t, "counts", over(3, "> 0", one(0, "c0 1 add")), "> 1", "> 2", "> 3")
	wantSame(t, "counts", m.Cells(), numbers("3 0 0"))
	wantRows(t, "what was", over(3, "0 > 1 2", one(2, "c1"), one(1, "c0")), "5 > 5 0", "6 > 6 5", "7 > 7 6")
	wantRows(t, "sums", over(2, "0 > 1", one(1, "c0 c1 add")), "3 > 3", "4 > 7", "5 > 12")
	wantRows(t, "the first row", over(3, "1 > 2", one(2, "c0 c1 -1 sel"), one(0, "1")), "5 > -1", "6 > 6", "7 > 7")
	m = wantRows(t, "arrays", over(7, "0 > 1 3 6", each(4, 3, "a1"), each(1, 3, "c0 k add")), "5 > 5 7 0", "8 > 8 10 7", "0 > 0 2 10")
	wantSame(t, "arrays", m.Cells(), numbers("0 0 1 2 8 9 10"))
	wantRows(t, "a scan over itself", over(3, "> 0 1 2", scan(api.KAdd, 0, 3, "1", "a0")), "> 1 1 1", "> 2 3 4", "> 3 6 10")
	wantRows(t, "a fold over itself", over(3, "0 > 1", fold(api.KAdd, 1, 2, "c1", "c0")), "1 > 2", "5 > 12")
}

// P14.2: ErrRow at -1: what is given is not as long as Put; with it the row has not been.
func TestErrRow(t *testing.T) {
	l := over(4, "0 1 > 2 3", one(2, "c2 c0 add"), one(3, "c3 c1 add"))
	wantRows(t, "two", l, "5 6 > 5 6", "5 !", "!", "7 8 9 !", "1 1 > 6 7", "1 1 1 !", "1 !", "2 2 > 8 9")
	wantRows(t, "at the beginning", l, "5 !", "5 6 7 !", "!", "5 6 > 5 6")
	wantRows(t, "no Put", over(1, "> 0", one(0, "c0 1 add")), "0 !", "> 1", "1 2 3 !", "> 2")
	wantRows(t, "the same cell twice", over(1, "0 0 > 0"), "1 !", "1 2 > 2", "1 2 3 !", "3 4 > 4")
	m := begun(t, l)
	wantWrong(t, "nil", m, nil)
	wantWrong(t, "empty", m, []int64{})
	wantWrong(t, "very long", m, make([]int64, 1<<22))
	wantRow(t, "then", m, "5 6 > 5 6")
	most := api.Loops{Cells: 6000, Put: upTo(0, 6000), Get: []int{5999}}
	m = begun(t, most)
	wantWrong(t, "one less", m, make([]int64, 5999))
	wantWrong(t, "one more", m, make([]int64, 6001))
	wantTold(t, "as many", m, slices.Repeat([]int64{3}, 6000), []int64{3})
}

// P14: Cells tells all cells, ahead of the first row, too; what it answers may be changed.
func TestTellCells(t *testing.T) {
	for _, cells := range []int{1, 2, 300, 6000} {
		m := begun(t, api.Loops{Cells: cells, Put: []int{cells - 1}, Steps: []api.Loop{one(0, "c0 3 add")}})
		first := m.Cells()
		wantSame(t, "at first", first, make([]int64, cells))
		fill(first, 99)
		wantRow(t, "a row", m, "7 >")
		want := make([]int64, cells)
		want[cells-1] = 7
		want[0] += 3
		second := m.Cells()
		wantSame(t, "behind a row", second, want)
		fill(second, -99)
		wantSame(t, "once more", m.Cells(), want)
		wantRow(t, "another row", m, "8 >")
		want[0], want[cells-1] = 6, 8
		if cells == 1 {
			want[0] = 11
		}
		wantSame(t, "behind another row", m.Cells(), want)
		wantSame(t, "what was told ahead", second[0], -99)
	}
}
