package vm

import (
	"fmt"
	"slices"
	"testing"

	"loomwork/api"
	"loomwork/code"
)

// thrower throws code for so many cells and registers; one in rare is an ILoadX or an
// IStoreX at whatever place.
type thrower struct {
	*dice
	cells, regs, rare int
}

// plainIns is an instruction that may be done where so much is there. What it does not
// have may be anything.
func (th thrower) plainIns() api.Ins {
	op := pick(th.dice, []int{api.INum, api.ILoad, api.IStore, api.IUn, api.IBin, api.ISel, api.IMove})
	if th.below(th.rare) == 0 {
		op = pick(th.dice, []int{api.ILoadX, api.IStoreX})
	}
	i := api.Ins{Op: op, R: th.below(th.regs), A: th.below(th.regs), B: th.below(th.regs), N: int64(th.below(th.cells))}
	switch i.Op {
	case api.INum:
		i.N = int64(th.below(6) - 1)
		if th.below(4) == 0 {
			i.N = pick(th.dice, someNumbers())
		}
	case api.ILoadX, api.IStoreX:
		i.B = 1 + th.below(th.cells-int(i.N))
	case api.IUn:
		i.K = pick(th.dice, []int{api.KNeg, api.KNot})
	case api.IBin:
		i.K = 1 + th.below(api.KXor)
	}
	if th.below(3) == 0 {
		spoil(&i, pick(th.dice, []int{-1, 3, 40, greatest, least}))
	}
	return i
}

// within is an ILoadX or an IStoreX by the register of a loop of n turns; mostly it has as
// many cells.
func (th thrower) within(turning int, n int64) api.Ins {
	b := int(n)
	if th.below(th.rare) == 0 {
		b += th.below(3) - 1
	}
	b = max(1, min(th.cells, b))
	return api.Ins{Op: pick(th.dice, []int{api.ILoadX, api.IStoreX}), R: th.below(th.regs), A: turning, B: b, N: int64(th.below(th.cells - b + 1))}
}

// loop is an ILoop with what is behind it, as far as its IEnd.
func (th thrower) loop(most int) []api.Ins {
	n := int64(pick(th.dice, []int{1, 2, 3, min(th.cells, 300), min(th.cells, 5)}))
	loop, end := api.Ins{Op: api.ILoop, R: th.below(th.regs), N: n}, api.Ins{Op: api.IEnd}
	spoil(&loop, th.below(50)-5)
	spoil(&end, th.below(50)-5)
	l := []api.Ins{loop}
	for len(l) < most-1 && th.below(5) > 0 {
		i := th.within(loop.R, n)
		if th.below(3) > 0 {
			i = th.plainIns()
		}
		if i.R == loop.R && th.below(th.rare) > 0 {
			continue // else few loops would turn as they began
		}
		l = append(l, i)
	}
	return append(l, end)
}

// code is as much as so many instructions at most, one or more.
func (th thrower) code(most int) []api.Ins {
	var l []api.Ins
	for len(l) < most {
		if rest := most - len(l); rest >= 2 && th.below(3) == 0 {
			l = append(l, th.loop(rest)...)
		} else {
			l = append(l, th.plainIns())
		}
	}
	return l
}

func thrownCells(d *dice, cells int) []int {
	var list []int
	for range d.below(5) {
		list = append(list, d.below(cells))
	}
	return list
}

// thrown is an image that may be run.
func thrown(number, most, rare int) api.Image {
	d := dice(number)
	cells, regs := pick(&d, []int{1, 2, 5, 9, 40}), pick(&d, []int{1, 2, 4, 7, 40})
	m := api.Image{Cells: cells, Regs: regs, Put: thrownCells(&d, cells), Get: thrownCells(&d, cells)}
	if d.below(3) == 0 {
		m.Bools = thrownCells(&d, cells)
	}
	m.Code = thrower{&d, cells, regs, rare}.code(1 + d.below(most))
	m.Cost = code.Cost(m.Code)
	return m
}

// thrownRows are rows for an image, some of which have a fault.
func thrownRows(d *dice, m api.Image, count int) [][]int64 {
	var rows [][]int64
	for range count {
		var row []int64
		for _, cell := range m.Put {
			n := int64(d.below(7) - 2)
			if d.below(6) == 0 {
				n = pick(d, someNumbers())
			}
			if slices.Contains(m.Bools, cell) && d.below(8) > 0 {
				n = int64(d.below(2))
			}
			row = append(row, n)
		}
		if d.below(12) == 0 {
			row = append(row, 0)
		}
		rows = append(rows, row)
	}
	return rows
}

// P18.1: thrown images do with thrown rows what the chapter's words say.
func TestThrown(t *testing.T) {
	codes := map[int]int{}
	for i := range 30000 {
		m, d := thrown(i, 14, 8), dice(i)
		for k, count := range holdAgainstSaid(t, fmt.Sprint("thrown ", i), m, thrownRows(&d, m, 6)) {
			codes[k] += count
		}
		if t.Failed() {
			t.Fatalf("%.2000s", plain(m))
		}
	}
	for _, k := range []int{0, api.ErrRow, api.ErrRange} {
		if codes[k] < 15000 {
			t.Errorf("the code %d was told %d times alone", k, codes[k])
		}
	}
}

// P18.1: likewise code that is long.
func TestThrownLong(t *testing.T) {
	codes := map[int]int{}
	for i := range 600 {
		m, d := thrown(i, 300, 400), dice(i)
		for k, count := range holdAgainstSaid(t, fmt.Sprint("thrown ", i), m, thrownRows(&d, m, 4)) {
			codes[k] += count
		}
		if t.Failed() {
			t.Fatalf("%.2000s", plain(m))
		}
	}
	for _, k := range []int{0, api.ErrRow, api.ErrRange} {
		if codes[k] < 100 {
			t.Errorf("the code %d was told %d times alone", k, codes[k])
		}
	}
}

// What follows: what an image's code does piece by piece is what it does as a whole, if
// registers are read in no piece ahead of what writes them.
func TestPieces(t *testing.T) {
	pieces := []string{
		"load 0 0; load 1 1; add 0 0 1; store 0 2",
		"loop 0 3; loadx 1 0 0 3; neg 1 1; storex 1 0 3 3; end",
		"load 0 3; store 0 0; num 1 8; store 1 1",
		"num 2 0; loop 0 6; loadx 1 0 0 6; add 2 2 1; end; store 2 5",
		"load 0 5; less 0 0 0; load 1 1; load 2 2; sel 0 1 2; store 0 4",
	}
	for first, a := range pieces {
		for second, b := range pieces {
			whole := begun(t, "whole", image(6, "0 1 2 > 0 1 2 3 4 5", a+";"+b))
			front := begun(t, "front", image(6, "0 1 2 > 0 1 2 3 4 5", a))
			back := begun(t, "back", image(6, "0 1 2 3 4 5 > 0 1 2 3 4 5", b))
			for _, row := range [][]int64{{1, 2, 3}, {-4, least, 0}, {greatest, 1, -1}} {
				between, _ := front.Row(row)
				want, _ := back.Row(between)
				got, fault := whole.Row(row)
				what := fmt.Sprint("pieces ", first, " and ", second)
				wantSame(t, what, []any{got, fault, whole.Steps()}, []any{want, api.Fault{}, front.Steps() + back.Steps()})
				front.cells = back.Cells()
			}
		}
	}
}
