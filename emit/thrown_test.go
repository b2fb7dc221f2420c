package emit

import (
	"fmt"
	"slices"
	"testing"

	"loomwork/api"
)

// thrownPush is a step that takes none, and may stand in a tree for n cells.
func thrownPush(d *dice, cells, n int) api.Push {
	switch d.below(4) {
	case 0:
		return api.Push{Op: api.PNum, N: pick(d, append(someNumbers(), 0, 1, 2, 3, -1))}
	case 1:
		return api.Push{Op: api.PIdx, N: pick(d, []int64{0, 0, 1, -1, -3, api.MaxNum, -api.MaxNum})}
	case 2:
		return api.Push{Op: api.PSca, V: d.below(cells)}
	}
	return api.Push{Op: api.PArr, V: d.below(cells - n + 1)}
}

// thrownTree is a tree for n cells of so many steps at most, not below one.
func thrownTree(d *dice, cells, n, most int) []api.Push {
	kind := d.below(7)
	switch {
	case most >= 2 && kind == 0:
		return append(thrownTree(d, cells, n, most-1), api.Push{Op: api.PUn, K: pick(d, []int{api.KNeg, api.KNot})})
	case most >= 3 && kind <= 3:
		a := thrownTree(d, cells, n, most-2)
		both := append(a, thrownTree(d, cells, n, most-1-len(a))...)
		if kind == 3 {
			count := 1 + d.below(cells)
			return append(both, api.Push{Op: api.PAt, V: d.below(cells - count + 1), N: int64(count)})
		}
		return append(both, api.Push{Op: api.PBin, K: 1 + d.below(api.KXor)})
	case most >= 4 && kind == 4:
		a := thrownTree(d, cells, n, most-3)
		two := append(a, thrownTree(d, cells, n, most-2-len(a))...)
		three := append(two, thrownTree(d, cells, n, most-1-len(two))...)
		return append(three, api.Push{Op: api.PSel})
	}
	return []api.Push{thrownPush(d, cells, n)}
}

// thrownStep is a right step over so many cells.
func thrownStep(d *dice, cells int) api.Loop {
	s := api.Loop{Op: 1 + d.below(api.LScan), K: 1 + d.below(api.KXor), N: 1 + d.below(min(cells, api.MaxArray))}
	made := s.N
	if s.Op == api.LOne || s.Op == api.LFold {
		made = 1
	}
	s.To = d.below(cells - made + 1)
	turns := s.N
	if s.Op == api.LOne {
		turns, s.N = 1, d.below(9)-4
	}
	s.E, s.F = thrownTree(d, cells, turns, 1+d.below(24)), thrownTree(d, cells, 1, 1+d.below(9))
	return s
}

// thrown are right loops of so many steps at most.
func thrown(i, most int) api.Loops {
	d := dice(i)
	l := api.Loops{Cells: 1 + d.below(9)}
	for range d.below(5) {
		l.Put = append(l.Put, d.below(l.Cells))
	}
	for range d.below(8) {
		l.Get = append(l.Get, d.below(l.Cells))
	}
	for range d.below(most + 1) {
		l.Steps = append(l.Steps, thrownStep(&d, l.Cells))
	}
	return l
}

// thrownRows are rows that loops may be given.
func thrownRows(d *dice, l api.Loops, count int) [][]int64 {
	var rows [][]int64
	for range count {
		var row []int64
		for range l.Put {
			n := int64(d.below(9) - 3)
			if d.below(6) == 0 {
				n = pick(d, someNumbers())
			}
			row = append(row, n)
		}
		rows = append(rows, row)
	}
	return rows
}

// thrownBools are some of the cells.
func thrownBools(d *dice, l api.Loops) []int {
	var bools []int
	for range d.below(4) {
		bools = append(bools, d.below(l.Cells))
	}
	return bools
}

// P17.1: thrown loops' images are what the chapter's words say.
func TestThrown(t *testing.T) {
	steps, pushes := map[int]int{}, map[int]int{}
	for i := range 20000 {
		l, d := thrown(i, 6), dice(i)
		holdAgainstSaid(t, fmt.Sprint("thrown ", i), l, thrownBools(&d, l))
		if t.Failed() {
			t.Fatalf("%.2000s", plain(l))
		}
		for _, s := range l.Steps {
			steps[s.Op]++
			for _, p := range s.E {
				pushes[p.Op]++
			}
		}
	}
	for op := api.LOne; op <= api.LScan; op++ {
		if steps[op] < 5000 {
			t.Errorf("the Op %d was seen %d times alone", op, steps[op])
		}
	}
	for op := api.PNum; op <= api.PAt; op++ {
		if pushes[op] < 5000 {
			t.Errorf("the step %d was seen %d times alone", op, pushes[op])
		}
	}
}

// What follows: code is what the loops do, row by row, in all cells, divisions by 0, places
// outside of their array on either side, and numbers that wrap round among what is done.
func TestThrownRows(t *testing.T) {
	happened := map[string]int{}
	for i := range 15000 {
		l, d := thrown(i, 7), dice(i)
		r := wantRun(t, fmt.Sprint("thrown ", i), l, thrownRows(&d, l, 5))
		for what, count := range r.happened {
			happened[what] += count
		}
	}
	for _, what := range []string{"a division by 0", "a place below", "a place within", "a place beyond", "a number that wraps round"} {
		if happened[what] < 5000 {
			t.Errorf("%s: %d times alone", what, happened[what])
		}
	}
}

// What follows: likewise over more cells, with as many turns as there may be.
func TestThrownWide(t *testing.T) {
	for i := range 200 {
		d := dice(i)
		l := api.Loops{Cells: pick(&d, []int{299, 300, 301, 400, 6000}), Put: []int{0, 150, 298}}
		for range 4 {
			l.Steps = append(l.Steps, thrownStep(&d, l.Cells))
		}
		l.Get = upTo(0, l.Cells)
		holdAgainstSaid(t, fmt.Sprint("thrown ", i), l, thrownBools(&d, l))
		wantRun(t, fmt.Sprint("thrown ", i), l, thrownRows(&d, l, 3))
	}
}

// What follows: each step by itself does what it does behind others.
func TestStepsOneByOne(t *testing.T) {
	for i := range 3000 {
		l, d := thrown(i, 6), dice(i)
		row := thrownRows(&d, l, 1)[0]
		whole := newRunner(made(t, "whole", l))
		whole.row(row)
		cells := newRunner(made(t, "no steps", api.Loops{Cells: l.Cells, Put: l.Put}))
		cells.row(row)
		done := 0
		for _, s := range l.Steps {
			alone := newRunner(made(t, "alone", api.Loops{Cells: l.Cells, Steps: []api.Loop{s}}))
			alone.cells = slices.Clone(cells.cells)
			alone.row(nil)
			cells, done = alone, done+alone.done
		}
		wantSame(t, fmt.Sprint("thrown ", i), []any{cells.cells, done}, []any{whole.cells, whole.done})
	}
}
