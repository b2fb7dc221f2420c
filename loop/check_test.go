package loop

import (
	"fmt"
	"slices"
	"testing"

	"loomwork/api"
)

// P14: loops that have nothing but cells, and those without one of their lists.
func TestNothing(t *testing.T) {
	wantRows(t, "nothing", over(1, ">"), ">", ">", "0 !")
	wantRows(t, "without steps", over(4, "3 1 > 1 3 0 1"), "5 6 > 6 5 0 6", "7 8 > 8 7 0 8")
	m := wantRows(t, "without Put", over(2, "> 1", one(1, "c1 1 add")), "> 1", "> 2", "5 !", "> 3")
	wantSame(t, "without Put: cells", m.Cells(), numbers("0 3"))
	m = wantRows(t, "without Get", over(2, "0 >", one(1, "c0 c1 add")), "5 >", "6 >", "!")
	wantSame(t, "without Get: cells", m.Cells(), numbers("6 11"))
}

// P14.1: ErrSize at -1: Cells is not from 1 to MaxCells.
func TestCells(t *testing.T) {
	for _, cells := range []int{1, 2, 5999, 6000} {
		m := wantRight(t, fmt.Sprint("cells ", cells), api.Loops{Cells: cells, Put: []int{cells - 1}, Get: []int{cells - 1}})
		wantRow(t, "the last cell", m, "7 > 7")
		wantSame(t, "how many", len(m.Cells()), cells)
	}
	for _, cells := range []int{0, -1, -6000, 6001, 1 << 32, 1<<32 + 1, greatest, least} {
		wantFault(t, fmt.Sprint("cells ", cells), api.Loops{Cells: cells}, api.ErrSize, -1)
	}
}

// P14.1: ErrMany at -1: more Put, Get or steps than there may be.
func TestMany(t *testing.T) {
	most := api.Loops{Cells: 3, Put: make([]int, 6000), Get: slices.Repeat([]int{2}, 120000), Steps: slices.Repeat([]api.Loop{one(2, "c2 1 add")}, 1200)}
	m := wantRight(t, "most", most)
	row := make([]int64, 6000)
	row[5999] = 4
	for i, want := range []int64{1200, 2400} {
		wantTold(t, fmt.Sprint("most, row ", i), m, row, slices.Repeat([]int64{want}, 120000))
	}
	wantSame(t, "most, cells", m.Cells(), numbers("4 0 2400"))
	for what, l := range map[string]api.Loops{
		"Put":   {Cells: 6000, Put: upTo(0, 6001)},
		"Get":   {Cells: 3, Get: make([]int, 120001)},
		"steps": {Cells: 3, Steps: slices.Repeat([]api.Loop{one(2, "1")}, 1201)},
	} {
		wantFault(t, "one more: "+what, l, api.ErrMany, -1)
	}
	l := over(6000, ">")
	l.Put, l.Get = upTo(0, 6000), slices.Repeat(upTo(0, 6000), 20)
	wantRight(t, "each cell once, and 20 times", l)
}

// P14.1: ErrRange at -1: one of Put or Get is no cell.
func TestNoCells(t *testing.T) {
	for _, cells := range []int{1, 4, 6000} {
		for _, cell := range []int{-1, -cells, cells, cells + 1, 1 << 32, greatest, least} {
			for place := range 3 {
				list := make([]int, 3)
				list[place] = cell
				what := fmt.Sprint(cells, " cells: ", list)
				wantFault(t, what, api.Loops{Cells: cells, Put: list}, api.ErrRange, -1)
				wantFault(t, what, api.Loops{Cells: cells, Get: list}, api.ErrRange, -1)
				wantFault(t, what, api.Loops{Cells: cells, Put: list, Get: list}, api.ErrRange, -1)
				wantFault(t, what, api.Loops{Cells: cells, Put: make([]int, 9), Get: list}, api.ErrRange, -1)
			}
		}
		for _, cell := range []int{0, cells - 1} {
			wantRight(t, fmt.Sprint("the cell ", cell), api.Loops{Cells: cells, Put: []int{cell}, Get: []int{cell}})
		}
	}
}

// P14.1: which fault is told, if several are so.
func TestFaultsAhead(t *testing.T) {
	bad := api.Loop{Op: 9}
	l := api.Loops{Cells: 0, Put: make([]int, 6001), Get: []int{-1}, Steps: []api.Loop{one(0, "1"), bad}}
	wantFault(t, "Cells and all others", l, api.ErrSize, -1)
	l.Cells = 1
	wantFault(t, "Put and what is no cell", l, api.ErrMany, -1)
	l.Put, l.Get = []int{4}, make([]int, 120001)
	wantFault(t, "Get and what is no cell", l, api.ErrMany, -1)
	l.Get = nil
	l.Steps = slices.Repeat(l.Steps, 601)
	wantFault(t, "steps and what is no cell", l, api.ErrMany, -1)
	l.Steps = l.Steps[:1200]
	wantFault(t, "what is no cell and a step", l, api.ErrRange, -1)
	l.Put, l.Get = nil, []int{4}
	wantFault(t, "what is no cell in Get and a step", l, api.ErrRange, -1)
	l.Get = nil
	wantFault(t, "the first step", l, api.ErrForm, 1)
	l.Steps[1] = l.Steps[0]
	wantFault(t, "the next one", l, api.ErrForm, 3)
	for i := range l.Steps {
		l.Steps[i] = one(0, "1")
	}
	wantRight(t, "none", l)
	l.Steps[1199] = bad
	wantFault(t, "the last one", l, api.ErrForm, 1199)
	l.Cells = 6001
	wantFault(t, "Cells and a step", l, api.ErrSize, -1)
}

// P14.1: ErrForm at the first step's number, whatever is wrong with that and with those
// behind it.
func TestFirstStep(t *testing.T) {
	wrong := []api.Loop{
		{Op: 0, E: tree("1")},
		{Op: 5, N: 1, E: tree("1"), F: tree("1"), K: api.KAdd},
		each(0, 0, "1"),
		each(4, 3, "1"),
		one(6, "1"),
		one(0, "add"),
		fold(api.KAdd, 0, 3, "1 1", "1"),
		scan(api.KNot, 0, 3, "1", "1"),
	}
	right := []api.Loop{one(5, "a5"), each(4, 2, "a4"), fold(api.KLess, 5, 300, "a5", "c5"), scan(api.KEq, 3, 3, "a5", "a3")}
	wantRight(t, "right ones", over(6, ">", right...))
	for i, s := range wrong {
		for number := range 4 {
			steps := slices.Clone(right)
			steps[number] = s
			wantFault(t, fmt.Sprint("wrong ", i), over(6, ">", steps...), api.ErrForm, number)
			for _, other := range wrong {
				steps = append(steps, other)
				wantFault(t, fmt.Sprint("wrong ", i, " and more"), over(6, ">", steps...), api.ErrForm, number)
			}
		}
	}
}
