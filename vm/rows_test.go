package vm

import (
	"fmt"
	"slices"
	"testing"

	"loomwork/api"
)

// P18.1: ErrRow at -1: in is not as long as Put.
func TestLengths(t *testing.T) {
	for _, count := range []int{0, 1, 2, 3, 300, 6000} {
		m := withCode(api.Image{Cells: 6000, Put: upTo(0, count), Get: upTo(0, count)}, instructions("num 0 7; store 0 0")...)
		v := begun(t, "lengths", m)
		for _, other := range []int{0, 1, 2, 3, 4, count - 1, count + 1, 2 * count, 6001, 1 << 20} {
			if other >= 0 && other != count {
				wantNot(t, fmt.Sprint(other, " for ", count), v, make([]int64, other), api.ErrRow, -1)
			}
		}
		if count > 0 {
			wantNot(t, "nil", v, nil, api.ErrRow, -1)
			wantNot(t, "none", v, []int64{}, api.ErrRow, -1)
		}
		in := make([]int64, count)
		for i := range in {
			in[i] = int64(i) - 5
		}
		want := slices.Clone(in)
		if count > 0 {
			want[0] = 7
		}
		wantTold(t, fmt.Sprint(count, " of ", count), v, 2, in, want)
		if count == 0 {
			wantTold(t, "nil", v, 2, nil, nil)
			wantTold(t, "none", v, 2, []int64{}, nil)
		}
	}
	m := image(3, "0 1 > 2", "load 0 0; load 1 1; add 0 0 1; store 0 2")
	wantRows(t, "between rows", m, "! 17 -1", "4 ! 17 -1", "4 5 > 9", "4 5 6 ! 17 -1", "! 17 -1", "6 7 > 13")
}

// P18.1: in comes to lie at Put, the first to the first; if one cell stands there twice,
// the later one counts. The code finds it there.
func TestPut(t *testing.T) {
	wantRows(t, "in another order", image(4, "3 0 2 > 0 1 2 3", ""), "5 6 7 > 6 0 7 5", "8 9 10 > 9 0 10 8")
	wantRows(t, "one cell twice", image(2, "1 1 > 0 1", ""), "5 6 > 0 6", "7 8 > 0 8")
	wantRows(t, "one cell thrice, and others", image(3, "1 0 1 2 1 > 0 1 2", ""), "1 2 3 4 5 > 2 5 4", "6 7 8 9 10 > 7 10 9")
	m := image(3, "1 1 > 2 1", "load 0 1; neg 0 0; store 0 2")
	v := wantRows(t, "as the code finds it", m, "5 6 > -6 6", "6 5 > -5 5")
	wantBeen(t, "as the code finds it", v, 6, numbers("0 5 -5"))
	wantRows(t, "over what the row ahead left", image(1, "0 > 0", "load 0 0; add 0 0 0; store 0 0"), "5 > 10", "6 > 12", "7 > 14")
	m = api.Image{Cells: 1, Regs: 1, Put: make([]int, 6000), Get: []int{0}}
	in := make([]int64, 6000)
	in[5998], in[5999] = 5, -3
	wantTold(t, "one cell as often as may be", begun(t, "Put", m), 0, in, []int64{-3})
}

// P18.1: what comes lies at Get then, behind all instructions; a cell may stand there more
// than once, or be one that was given.
func TestGet(t *testing.T) {
	wantRows(t, "two that are one", image(2, "0 > 0 0 1 0", "num 0 8; store 0 1"), "5 > 5 5 8 5")
	wantRows(t, "in another order", image(3, "0 1 2 > 2 0 1", ""), "5 6 7 > 7 5 6")
	wantRows(t, "what was given and written over", image(1, "0 > 0", "num 0 8; store 0 0"), "5 > 8")
	wantRows(t, "what was written twice", image(1, "> 0", "num 0 8; store 0 0; num 0 9; store 0 0"), "> 9")
	wantRows(t, "none", image(1, "0 >", "num 0 8; store 0 0"), "5 >")
	wantRows(t, "what nobody wrote", image(6000, "> 5999 0", "num 0 8"), "> 0 0")
	m := api.Image{Cells: 1, Regs: 1, Put: []int{0}, Get: make([]int, 120000)}
	wantTold(t, "as many as may be", begun(t, "Get", m), 0, []int64{5}, slices.Repeat([]int64{5}, 120000))
}

// noTruths are numbers that are neither 0 nor 1.
func noTruths() []int64 {
	return []int64{2, -1, 3, -2, 256, 257, 1 << 32, 1<<32 + 1, -1 << 32, 1 << 62, greatest, greatest - 1, least, least + 1}
}

// P18.1: ErrRow at its place: the first of in whose cell is one of Bools and that is
// neither 0 nor 1.
func TestTruths(t *testing.T) {
	const counting = "load 0 3; num 1 1; add 0 0 1; store 0 3"
	m := image(6, "4 0 5 2 : 0 2 > 3", counting)
	v := begun(t, "truths", m)
	rows := int64(0)
	for _, free := range append(noTruths(), 0, 1) {
		for truths := range int64(4) {
			rows++
			wantTold(t, "truths, and others that are none", v, 4, []int64{free, truths / 2, free, truths % 2}, []int64{rows})
		}
	}
	for _, n := range noTruths() {
		wantNot(t, "the first truth", v, []int64{7, n, 7, 1}, api.ErrRow, 1)
		wantNot(t, "the last truth", v, []int64{7, 1, 7, n}, api.ErrRow, 3)
		for _, other := range noTruths() {
			wantNot(t, "both", v, []int64{n, n, other, other}, api.ErrRow, 1)
		}
		rows++
		wantTold(t, "behind them", v, 4, []int64{n, 0, n, 1}, []int64{rows})
	}
	for place := range 6000 {
		if place%500 > 0 && place < 5990 {
			continue
		}
		m := api.Image{Cells: 6000, Regs: 1, Put: upTo(0, 6000), Bools: upTo(0, 6000)}
		in := make([]int64, 6000)
		in[place] = 2
		in[5999] = 3
		wantNot(t, "one of many", begun(t, "many truths", m), in, api.ErrRow, place)
		in[place], in[5999] = 1, 0
		wantTold(t, "many", begun(t, "many truths", m), 0, in, nil)
	}
}

// P18.1: Bools are cells, not places; they may stand in any order, more than once, and
// name cells that nothing is put to.
func TestBools(t *testing.T) {
	wantRows(t, "cells, not places", image(3, "2 1 : 1 > 1 2", ""), "5 1 > 1 5", "5 2 ! 17 1", "0 0 > 0 0")
	wantRows(t, "not the cell of that number", image(4, "3 2 : 0 1 > 2 3", ""), "5 6 > 6 5")
	wantRows(t, "in another order", image(3, "0 1 2 : 2 0 > 0 1 2", ""), "0 7 1 > 0 7 1", "2 7 2 ! 17 0", "1 7 2 ! 17 2")
	wantRows(t, "twice", image(2, "0 1 : 1 1 1 > 0 1", ""), "7 1 > 7 1", "7 7 ! 17 1")
	wantRows(t, "of no Put", image(3, "0 : 1 2 > 0", ""), "7 > 7")
	wantRows(t, "of one Put beside others", image(3, "0 1 : 1 2 > 0", ""), "7 1 > 7", "7 -1 ! 17 1")
	wantRows(t, "none", image(1, "0 > 0", ""), "7 > 7")
	wantRows(t, "what the code writes there", image(2, "0 : 0 1 > 0 1", "num 0 7; store 0 0; store 0 1"), "1 > 7 7", "7 ! 17 0", "0 > 7 7")
	wantRows(t, "cells that are told", image(2, "0 : 1 > 0 1", "num 0 7; store 0 1"), "9 > 9 7")
}

// P18.1: each of in is looked at, also if its cell stands in Put twice, and a later one
// counts.
func TestTruthsOfOneCell(t *testing.T) {
	m := image(2, "1 0 1 : 1 > 0 1", "")
	wantRows(t, "twice", m, "0 9 1 > 9 1", "2 9 1 ! 17 0", "0 9 2 ! 17 2", "3 9 2 ! 17 0", "1 9 0 > 9 0")
}

// P18.1: which fault comes first: how long in is, then the first truth that is none, then
// what the code does.
func TestWhichFirst(t *testing.T) {
	m := image(4, "0 1 2 : 1 2 > 3", "load 0 0; store 0 3; loadx 1 0 0 4; storex 1 0 1 2")
	v := begun(t, "which first", m)
	wantRow(t, "none", v, "1 1 0 > 1")
	for _, place := range numbers("0 2 3 4 -1 - +") {
		for _, first := range noTruths() {
			for _, other := range append(noTruths(), 0, 1) {
				wantNot(t, "too long", v, []int64{place, first, other, 0}, api.ErrRow, -1)
				wantNot(t, "too short", v, []int64{place, first}, api.ErrRow, -1)
				wantNot(t, "the first truth", v, []int64{place, first, other}, api.ErrRow, 1)
			}
			wantNot(t, "the second truth", v, []int64{place, 1, first}, api.ErrRow, 2)
		}
	}
	wantRow(t, "the code's first", v, "4 1 1 ! 16 2")
	wantRow(t, "the code's second", v, "2 1 1 ! 16 3")
	wantRow(t, "none", v, "0 1 1 > 0")
	wantBeen(t, "which first", v, 8, numbers("0 0 1 0"))
}

// P18.1: rows behind a row with a fault are as if it had never come, what was put for it
// too.
func TestBehindFaults(t *testing.T) {
	m := image(4, "0 1 : 1 > 2 3", "load 0 2; load 1 0; add 0 0 1; store 0 2; load 2 1; load 3 3; num 4 1; add 3 3 4; store 3 3; loadx 5 1 0 4")
	right := []string{"1 1 > 1 1", "2 0 > 3 2", "0 1 > 3 3", "3 0 > 6 4"}
	wantRows(t, "without faults", m, right...)
	wrong := []string{"4 1 ! 16 9", "-1 0 ! 16 9", "1 2 ! 17 1", "1 ! 17 -1", "! 17 -1", "1 1 1 ! 17 -1", "4 -1 ! 17 1"}
	v := begun(t, "with faults", m)
	for _, row := range right {
		for _, not := range append(wrong, wrong...) {
			wantRow(t, "with faults", v, not)
		}
		wantRow(t, "with faults", v, row)
	}
	wantBeen(t, "with faults", v, 40, numbers("3 0 6 4"))
	ahead := begun(t, "a fault ahead of all", m)
	for _, not := range wrong {
		wantRow(t, "a fault ahead of all", ahead, not)
		wantBeen(t, "a fault ahead of all", ahead, 0, numbers("0 0 0 0"))
	}
}
