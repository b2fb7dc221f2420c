package vm

import (
	"fmt"
	"slices"
	"testing"

	"loomwork/api"
	"loomwork/code"
)

// P18.1: a loop turns N times, its register being 0, 1, ..
func TestTurns(t *testing.T) {
	for _, n := range []int{1, 2, 3, 7, 299, 300} {
		m := image(301, ">", fmt.Sprint("num 1 1; loop 0 ", n, "; storex 0 0 0 300; add 2 2 1; end; store 2 300"))
		m.Get = upTo(0, 301)
		want := make([]int64, 301)
		for k := range n {
			want[k] = int64(k)
		}
		want[300] = int64(n)
		v := begun(t, "turns", m)
		for range 2 {
			wantTold(t, fmt.Sprint(n, " turns"), v, 1+1+3*n+1, nil, want)
		}
		wantBeen(t, fmt.Sprint(n, " turns"), v, 2*(3+3*n), want)
	}
}

// P18.1: the register of a loop is set at each turn, whatever it was made meanwhile.
func TestRegisterWritten(t *testing.T) {
	const body = "num 2 1; num 3 100; loop 0 %d; add 1 1 2; storex 0 0 0 300; %s; end; store 0 301; store 1 302"
	for _, n := range []int{1, 2, 3, 300} {
		for written, left := range map[string]int64{
			"num 0 77":   77,
			"num 0 0":    0,
			"num 0 -1":   -1,
			"num 0 -":    least,
			"num 0 +":    greatest,
			"num 0 299":  299,
			"num 0 300":  300,
			"num 0 301":  301,
			"neg 0 0":    int64(1 - n),
			"add 0 0 2":  int64(n),
			"add 0 0 0":  int64(2 * (n - 1)),
			"sub 0 0 2":  int64(n - 2),
			"mul 0 0 3":  int64(100 * (n - 1)),
			"move 0 2":   1,
			"move 0 0":   int64(n - 1),
			"load 0 303": 0,
		} {
			text := fmt.Sprintf(body, n, written)
			m := image(304, ">", text)
			want := make([]int64, 304)
			for k := range n {
				want[k] = int64(k)
			}
			want[301], want[302] = left, int64(n)
			v := begun(t, text, m)
			for row := range 2 {
				wantTold(t, text, v, m.Cost, nil, nil)
				wantBeen(t, text, v, (row+1)*m.Cost, want)
			}
		}
	}
}

// P18.1: the register of a loop may be read within, ahead of and behind what writes into
// it, and behind the loop it is what it was made last.
func TestRegisterRead(t *testing.T) {
	wantCells(t, "behind one turn", "9", "loop 0 1; end; store 0 0", "0")
	wantCells(t, "behind two turns", "9", "loop 0 2; end; store 0 0", "1")
	wantCells(t, "behind as many as there may be", "9", "loop 0 300; end; store 0 0", "299")
	wantCells(t, "behind, written last", "", "loop 0 3; num 0 8; end; store 0 0", "8")
	wantCells(t, "what was ahead of the loop is gone", "", "num 0 77; loop 0 1; store 0 0; end", "0")
	wantCells(t, "within, ahead of and behind a write", "", "num 2 10; loop 0 3; storex 0 0 0 3; move 1 0; add 0 0 2; add 3 3 0; end; store 3 3; store 0 4; store 1 5", "0 1 2 33 12 2")
	wantCells(t, "as a place behind the loop", "", "num 1 5; loop 0 3; end; storex 1 0 0 3", "0 0 5")
	wantCells(t, "set again, when it was the sum", "", "num 1 1; loop 0 4; add 0 0 1; end; store 0 0", "4")
	wantCells(t, "another register does not turn", "", "num 1 3; loop 0 4; store 1 0; end; store 1 1", "3 3")
}

// P18.1: loops one behind the other, of one register or of two.
func TestLoopsInARow(t *testing.T) {
	wantCells(t, "of one register", "", "num 1 1; loop 0 2; add 2 2 1; end; loop 0 3; add 3 3 1; storex 0 0 2 3; end; store 2 0; store 3 1; store 0 5", "2 3 0 1 2 2")
	wantCells(t, "of two registers", "", "loop 0 4; end; loop 1 3; end; store 0 0; store 1 1", "3 2")
	wantCells(t, "a long one and a short one", "", "num 2 1; loop 0 300; add 3 3 2; end; loop 1 1; add 4 4 2; end; loop 0 2; add 5 5 2; end; store 3 0; store 4 1; store 5 2; store 0 3; store 1 4", "300 1 2 1 0")
	wantCells(t, "at the begin and at the end", "", "loop 0 2; num 1 4; end; num 2 5; loop 1 3; store 0 0; store 1 1; store 2 2; end", "1 2 5")
	for count := range 20 {
		text, done := "num 2 1", 1
		for i := range count {
			text += fmt.Sprint("; loop 0 ", i+1, "; add 1 1 2; end")
			done += 1 + 2*(i+1)
		}
		v := wantRows(t, fmt.Sprint(count, " loops"), image(1, "> 0", text+"; store 1 0"), fmt.Sprint("> ", count*(count+1)/2))
		wantSame(t, "done", v.Steps(), done+1)
	}
}

// P18.1: an IEnd right behind its ILoop.
func TestEmptyLoops(t *testing.T) {
	for _, n := range []int{1, 2, 300} {
		m := image(2, "0 > 0 1", fmt.Sprint("loop 1 ", n, "; end"))
		v := wantRows(t, "alone", m, "5 > 5 0", "6 > 6 0")
		wantBeen(t, "alone", v, 2*(1+n), numbers("6 0"))
		m = image(2, "0 > 0 1", fmt.Sprint("num 0 3; loop 1 ", n, "; end; loop 2 ", n, "; end; store 0 0; store 2 1"))
		v = wantRows(t, "between", m, fmt.Sprint("5 > 3 ", n-1))
		wantSame(t, "steps", v.Steps(), 1+2*(1+n)+2)
	}
	m := image(1, "> 0", "loop 0 300; end; store 0 0")
	m = withCode(m, append(slices.Repeat(instructions("loop 0 300; end"), 1000), instructions("store 0 0")...)...)
	v := wantRows(t, "a thousand", m, "> 299", "> 299")
	wantSame(t, "steps", v.Steps(), 2*(1000*301+1))
}

// P18.1: all registers are 0 at each row, whatever the row ahead left in them.
func TestRegistersAtBegin(t *testing.T) {
	var read, write []api.Ins
	for r := range 40 {
		read = append(read, api.Ins{Op: api.IStore, R: r, N: int64(r)})
		write = append(write, api.Ins{Op: api.INum, R: r, N: int64(r) + 7})
	}
	m := withCode(api.Image{Cells: 40, Put: []int{3}, Get: upTo(0, 40)}, slices.Concat(read, write)...)
	wantSame(t, "registers", m.Regs, 40)
	v := begun(t, "registers", m)
	for range 3 {
		wantTold(t, "registers", v, 80, []int64{5}, make([]int64, 40))
	}
	wantNot(t, "too long", v, make([]int64, 2), api.ErrRow, -1)
	wantTold(t, "behind a fault", v, 80, []int64{5}, make([]int64, 40))

	sum := image(2, "0 > 1", "load 1 0; add 0 0 1; store 0 1")
	wantRows(t, "a sum", sum, "5 > 5", "6 > 6", "7 > 7")
	turn := image(2, "> 1", "store 0 1; loop 0 5; end")
	wantRows(t, "a turn", turn, "> 0", "> 0")
	wantRows(t, "of a row with a fault", image(3, "0 > 2", "store 1 2; num 1 9; load 0 0; loadx 0 0 0 1"), "0 > 0", "1 ! 16 3", "0 > 0")
}

// P18.1: cells stay from row to row.
func TestCellsStay(t *testing.T) {
	const sums = "load 0 0; load 1 1; add 0 0 1; store 0 1"
	wantRows(t, "sums", image(2, "0 > 1", sums), "3 > 3", "4 > 7", "5 > 12")
	v := wantRows(t, "sums", image(2, "0 > 1", sums), "3 > 3", "4 > 7", "5 > 12", "- > -9223372036854775796", "- > 12")
	wantBeen(t, "sums", v, 20, numbers("- 12"))
	wantRows(t, "the row ahead", image(3, "0 > 2", "load 0 1; store 0 2; load 0 0; store 0 1"), "4 > 0", "5 > 4", "6 > 5", "7 > 6")
	wantRows(t, "an array turned", image(3, "0 > 0 1 2", "load 1 1; store 1 2; load 1 0; store 1 1"), "4 > 4 4 0", "5 > 5 5 4", "6 > 6 6 5")
	wantRows(t, "how many rows", image(1, "> 0", "load 0 0; num 1 1; add 0 0 1; store 0 0"), "> 1", "> 2", "> 3", "> 4")
}

// P18.1: code without instructions tells what is given, and takes none.
func TestNoCode(t *testing.T) {
	for _, none := range [][]api.Ins{nil, {}} {
		m := api.Image{Cells: 3, Regs: 1, Put: []int{1, 0}, Get: []int{0, 1, 2, 0}, Code: none}
		v := wantRows(t, "no code", m, "4 5 > 5 4 0 5", "6 7 > 7 6 0 7", "6 ! 17 -1", "- + > + - 0 +")
		wantBeen(t, "no code", v, 0, []int64{greatest, least, 0})
		wantRows(t, "nothing", api.Image{Cells: 1, Regs: 40, Code: none}, ">", ">", "0 ! 17 -1")
		m.Cost = 1
		wantBar(t, "no code that costs one", m, api.ErrCode, -1)
	}
}

// What follows: a row takes Cost instructions.
func TestSteps(t *testing.T) {
	for text, cost := range map[string]int{
		"num 0 1":                   1,
		"num 0 1; num 0 2; num 0 3": 3,
		"loop 0 1; end":             2,
		"loop 0 300; end":           301,
		"num 0 1; loop 1 3; move 0 1; end; store 0 0":    9,
		"loop 0 2; num 1 1; end; loop 0 5; num 1 1; end": 16,
		"loop 0 300; num 1 1; num 1 2; num 1 3; end":     1201,
	} {
		m := image(1, "0 >", text)
		wantSame(t, text+": Cost", []int{m.Cost, code.Cost(m.Code)}, []int{cost, cost})
		v := begun(t, text, m)
		for row := range 5 {
			wantTold(t, text, v, cost, []int64{4}, nil)
			wantSame(t, text+": Steps", v.Steps(), (row+1)*cost)
			wantNot(t, text, v, nil, api.ErrRow, -1)
			wantSame(t, text+": Steps asked again", v.Steps(), (row+1)*cost)
		}
	}
}
