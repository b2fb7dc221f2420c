package emit

import (
	"fmt"
	"math/bits"
	"slices"
	"testing"

	"loomwork/api"
	"loomwork/loop"
	"loomwork/sys"
)

// runner does an image's instructions one by one, as package api tells them. It counts
// how many it has done, and what of note has happened.
type runner struct {
	api.Image
	cells     []int64
	registers []int64
	done      int
	astray    int // an ILoadX or an IStoreX beyond its cells
	happened  map[string]int
}

func newRunner(m api.Image) *runner {
	return &runner{Image: m, cells: make([]int64, m.Cells), happened: map[string]int{}}
}

func (r *runner) row(in []int64) []int64 {
	r.registers = make([]int64, r.Regs)
	for i, cell := range r.Put {
		r.cells[cell] = in[i]
	}
	begin, turn := 0, int64(0)
	for at := 0; at < len(r.Code); at++ {
		r.done++
		i := r.Code[at]
		switch i.Op {
		case api.ILoop:
			begin, turn = at, 0
			r.registers[i.R] = turn
		case api.IEnd:
			if turn++; turn < r.Code[begin].N {
				r.registers[r.Code[begin].R] = turn
				at = begin
			}
		case api.ISel:
			r.notePlace(i, r.Code[at+1])
			r.do(i)
		default:
			r.do(i)
		}
	}
	var told []int64
	for _, cell := range r.Get {
		told = append(told, r.cells[cell])
	}
	return told
}

func (r *runner) do(i api.Ins) {
	to := &r.registers[i.R]
	switch i.Op {
	case api.INum:
		*to = i.N
	case api.ILoad:
		*to = r.cells[i.N]
	case api.IStore:
		r.cells[i.N] = *to
	case api.ILoadX:
		if cell := r.cellOf(i); cell != nil {
			*to = *cell
		}
	case api.IStoreX:
		if cell := r.cellOf(i); cell != nil {
			*cell = *to
		}
	case api.IUn:
		*to = sys.Apply(i.K, r.registers[i.A], 77)
	case api.IBin:
		a, b := r.registers[i.A], r.registers[i.B]
		r.noteOperator(i.K, a, b)
		*to = sys.Apply(i.K, a, b)
	case api.ISel:
		other := r.registers[i.B]
		if *to != 0 {
			other = r.registers[i.A]
		}
		*to = other
	case api.IMove:
		*to = r.registers[i.A]
	}
}

// cellOf is the cell of an ILoadX or an IStoreX, if there is one.
func (r *runner) cellOf(i api.Ins) *int64 {
	place := r.registers[i.A]
	if place < 0 || place >= int64(i.B) {
		r.astray++
		return nil
	}
	return &r.cells[i.N+place]
}

// notePlace notes where a PAt's place lies; only a PAt chooses a place for an ILoadX that
// comes next.
func (r *runner) notePlace(choice, next api.Ins) {
	if next.Op != api.ILoadX || next.A != choice.R {
		return
	}
	switch place := r.registers[choice.A]; {
	case place < 0:
		r.happened["a place below"]++
	case place >= int64(next.B):
		r.happened["a place beyond"]++
	default:
		r.happened["a place within"]++
	}
}

func (r *runner) noteOperator(k int, a, b int64) {
	wraps := false
	switch k {
	case api.KDiv, api.KMod:
		if b == 0 {
			r.happened["a division by 0"]++
		}
		wraps = a == least && b == -1
	case api.KAdd:
		wraps = (a < 0) == (b < 0) && (a+b < 0) != (a < 0)
	case api.KSub:
		wraps = (a < 0) != (b < 0) && (a-b < 0) != (a < 0)
	case api.KMul:
		high, low := bits.Mul64(distance(a), distance(b))
		wraps = high > 0 || low > 1<<63
	}
	if wraps {
		r.happened["a number that wraps round"]++
	}
}

// distance is how far a number is from 0.
func distance(n int64) uint64 {
	if n < 0 {
		return -uint64(n)
	}
	return uint64(n)
}

// wantRun gives rows to the code of loops and to the loops, and asks that both tell the
// same, that their cells are the same, that each row takes as many instructions as Cost
// says, and that none of them is astray.
func wantRun(t *testing.T, what string, l api.Loops, rows [][]int64) *runner {
	t.Helper()
	r := newRunner(made(t, what, l))
	machine, fault := loop.New(l)
	if fault.Code != 0 {
		t.Fatalf("%s: loop.New: %v", what, fault)
	}
	for number, row := range rows {
		before := r.done
		want, _ := machine.Row(row)
		if got := r.row(row); !slices.Equal(got, want) || !slices.Equal(r.cells, machine.Cells()) {
			t.Fatalf("%s: row %d, %.200s: told %.500s, want %.500s; cells %.500s, want %.500s", what, number,
				plain(row), plain(got), plain(want), plain(r.cells), plain(machine.Cells()))
		}
		wantSame(t, what+": done", r.done-before, r.Cost)
	}
	wantSame(t, what+": astray", r.astray, 0)
	return r
}

// wantCells gives one row to the code of steps over cells, the first of which are given,
// and asks for what all cells are then.
func wantCells(t *testing.T, what, given, cells string, steps ...api.Loop) {
	t.Helper()
	in, want := numbers(given), numbers(cells)
	l := api.Loops{Cells: len(want), Put: upTo(0, len(in)), Steps: steps}
	r := wantRun(t, what, l, [][]int64{in})
	wantSame(t, what+": cells", r.cells, want)
}

// P17.1: the chapter's example, and what it does.
func TestExample(t *testing.T) {
	l := over(6, "1 > 5", one(5, "c1 2 add"))
	m := made(t, "the example", l, 1)
	wantSame(t, "the example", m, api.Image{Cells: 6, Regs: 4, Cost: 4, Put: []int{1}, Bools: []int{1}, Get: []int{5}, Code: []api.Ins{
		{Op: api.ILoad, R: 2, N: 1},
		{Op: api.INum, R: 3, N: 2},
		{Op: api.IBin, K: api.KAdd, R: 2, A: 2, B: 3},
		{Op: api.IStore, R: 2, N: 5}}})
	wantSame(t, "the example, read", m.Code, instructions(2, "load s0 1; num s1 2; add s0 s0 s1; store s0 5"))
	wantFault(t, "the example over fewer cells", over(5, "1 > 5", l.Steps...), []int{1}, api.ErrRange, -1)
	r := wantRun(t, "the example", l, [][]int64{{7}, {-2}, {greatest}})
	wantSame(t, "row 7", newRunner(r.Image).row([]int64{7}), []int64{9})
	wantSame(t, "done in three rows", r.done, 12)
	wantSame(t, "cells", r.cells, []int64{0, greatest, 0, 0, 0, least + 1})
}

// What follows: what each Op of a step does, all cells told.
func TestWhatStepsDo(t *testing.T) {
	wantCells(t, "LOne", "3 4", "3 7", one(1, "c0 c1 add"))
	wantCells(t, "LEach", "0 5 6 7 0 0 0", "0 5 6 7 5 7 9", each(4, 3, "a1 k add"))
	wantCells(t, "LEach of things as they are then", "1 0 0 0", "1 2 4 8", each(1, 3, "a0 2 mul"))
	wantCells(t, "LEach over itself", "1 2 3", "2 3 3", each(0, 2, "a1"))
	wantCells(t, "LFold", "2 5 6 7", "20 5 6 7", fold(api.KAdd, 0, 3, "c0", "a1"))
	wantCells(t, "LFold of the last one", "9 5 6 7", "2 5 6 7", fold(api.KSub, 0, 3, "20", "a1"))
	wantCells(t, "LFold and its own cell", "1 2 3", "1 7 3", fold(api.KAdd, 1, 3, "1", "a0"))
	wantCells(t, "LScan", "1 2 3 0 0 0", "1 2 3 11 13 16", scan(api.KAdd, 3, 3, "10", "a0"))
	wantCells(t, "LScan over itself", "1 2 3", "1 3 6", scan(api.KAdd, 0, 3, "0", "a0"))
	wantCells(t, "LScan of what it made", "1 0 0 0", "1 1 2 4", scan(api.KAdd, 1, 3, "0", "a0"))
	wantCells(t, "F ahead of the turns", "1 2 3", "4 7 12", scan(api.KAdd, 0, 3, "c0 c1 add", "a0 k add"))
	wantCells(t, "one behind the other", "1", "13", one(0, "c0 5 add"), one(0, "c0 2 mul"), fold(api.KAdd, 0, 1, "c0", "1"))
	wantCells(t, "no steps", "4 5", "4 5 0")
}

// What follows: the cell at each place, of one that is within its array or not.
func TestWhatPlacesDo(t *testing.T) {
	for _, n := range []int64{1, 2, 5, 300, 5990} {
		l := over(5999, "0 1 > 2 3 4", one(2, fmt.Sprintf("c0 c1 t4,%d", n)), each(3, 1, fmt.Sprintf("c0 c1 t4,%d", n)), fold(api.KMax, 4, 1, fmt.Sprintf("c0 c1 t4,%d", n), "-"))
		l.Steps = append(l.Steps, each(100, 300, "k100"))
		var rows [][]int64
		for _, place := range append(someNumbers(), -1, 0, 1, n-1, n, n+1, -n, 100, 299) {
			rows = append(rows, []int64{place, 77}, []int64{place, -78})
		}
		r := wantRun(t, fmt.Sprint(n, " cells"), l, rows)
		for _, what := range []string{"a place below", "a place within", "a place beyond"} {
			if r.happened[what] < 6 {
				t.Errorf("%d cells: %s: %d times alone", n, what, r.happened[what])
			}
		}
	}
	wantCells(t, "below, within and beyond", "-1 0 1 2 3 4 - + 1000 2000 3000", "88 1000 2000 3000 88 88 88 88 1000 2000 3000", each(0, 8, "a0 88 t8,3"))
	wantCells(t, "PAt within PAt", "2 0 1 0 0 0", "2 0 1 1 2 0", each(3, 3, "k 7 t0,3 8 t0,3"))
	wantCells(t, "PAt in another's stead", "5 6", "5 6 6 5 6 9", each(2, 4, "k k-1 9 t0,2 t1,1"))
}

// What follows: each operator of each two numbers, in no loop and in loops.
func TestWhatOperatorsDo(t *testing.T) {
	l := api.Loops{Cells: 40, Put: []int{0, 1}, Get: upTo(2, 40)}
	for k := api.KAdd; k <= api.KXor; k++ {
		l.Steps = append(l.Steps, one(1+k, "c0 c1 "+nameOf(k)), each(13+k, 1, "a0 c1 "+nameOf(k)), fold(k, 25+k, 1, "c0", "a1"))
	}
	l.Steps = append(l.Steps, one(38, "c0 neg"), one(39, "c0 not"))
	var rows [][]int64
	for _, a := range someNumbers() {
		for _, b := range someNumbers() {
			rows = append(rows, []int64{a, b})
		}
	}
	r := wantRun(t, "operators", l, rows)
	for _, row := range rows {
		told := r.row(row)
		for k := api.KAdd; k <= api.KXor; k++ {
			want := sys.Apply(k, row[0], row[1])
			wantSame(t, nameOf(k), []int64{told[k-1], told[11+k], told[23+k]}, []int64{want, want, want})
		}
		wantSame(t, "neg and not", told[36:], []int64{sys.Apply(api.KNeg, row[0], 0), sys.Apply(api.KNot, row[0], 0)})
	}
	for _, what := range []string{"a division by 0", "a number that wraps round"} {
		if r.happened[what] < 100 {
			t.Errorf("%s: %d times alone", what, r.happened[what])
		}
	}
}

// What follows: all but 0 chooses the first.
func TestWhatChoicesDo(t *testing.T) {
	wantCells(t, "PSel", "0 1 -1 2 - + 256 4294967296", "20 10 10 10 10 10 10 10", each(0, 8, "a0 10 20 sel"))
	wantCells(t, "in one another", "0 0 1 1 0 1 0 1", "0 0 1 1 0 1 0 1 3 3 1 2", each(8, 4, "a0 a4 2 1 sel 3 sel"))
}
