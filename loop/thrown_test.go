package loop

import (
	"fmt"
	"slices"
	"testing"

	"loomwork/api"
)

// thrownPush is a step that takes none, and may stand in a tree for n cells.
func thrownPush(d *dice, cells, n int) api.Push {
	switch d.below(4) {
	case 0:
		return num(pick(d, append(someNumbers(), 0, 1, 2, 3, -1)))
	case 1:
		return idx(pick(d, []int64{0, 0, 1, -1, -3, 1000000000000000000, -1000000000000000000}))
	case 2:
		return sca(d.below(cells))
	}
	return arr(d.below(cells - n + 1))
}

// thrownTree is a tree for n cells of so many steps at most, not below one.
func thrownTree(d *dice, cells, n, most int) []api.Push {
	kind := d.below(7)
	switch {
	case most >= 2 && kind == 0:
		return append(thrownTree(d, cells, n, most-1), un(pick(d, []int{api.KNeg, api.KNot})))
	case most >= 3 && kind <= 3:
		a := thrownTree(d, cells, n, most-2)
		both := append(a, thrownTree(d, cells, n, most-1-len(a))...)
		if kind == 3 {
			count := 1 + d.below(cells)
			return append(both, at(d.below(cells-count+1), int64(count)))
		}
		return append(both, bin(1+d.below(api.KXor)))
	case most >= 4 && kind == 4:
		a := thrownTree(d, cells, n, most-3)
		two := append(a, thrownTree(d, cells, n, most-2-len(a))...)
		three := append(two, thrownTree(d, cells, n, most-1-len(two))...)
		return append(three, api.Push{Op: api.PSel})
	}
	return []api.Push{thrownPush(d, cells, n)}
}

// thrownStep is a right step over so many cells.
func thrownStep(d *dice, cells int) api.Loop {
	s := api.Loop{Op: pick(d, steppers()), K: 1 + d.below(api.KXor), N: 1 + d.below(min(cells, api.MaxArray))}
	made := s.N
	if s.Op == api.LOne || s.Op == api.LFold {
		made = 1
	}
	s.To = d.below(cells - made + 1)
	turns := s.N
	if s.Op == api.LOne {
		turns, s.N = 1, d.below(9)-4
	}
	s.E, s.F = thrownTree(d, cells, turns, 1+d.below(9)), thrownTree(d, cells, 1, 1+d.below(5))
	return s
}

// thrown are right loops of so many steps at most.
func thrown(i, most int) api.Loops {
	d := dice(i)
	l := api.Loops{Cells: 1 + d.below(9)}
	for range d.below(5) {
		l.Put = append(l.Put, d.below(l.Cells))
	}
	for range d.below(8) {
		l.Get = append(l.Get, d.below(l.Cells))
	}
	for range d.below(most + 1) {
		l.Steps = append(l.Steps, thrownStep(&d, l.Cells))
	}
	return l
}

// thrownRows are rows that loops may be given.
func thrownRows(d *dice, l api.Loops, count int) [][]int64 {
	var rows [][]int64
	for range count {
		var row []int64
		for range l.Put {
			n := int64(d.below(9) - 3)
			if d.below(6) == 0 {
				n = pick(d, someNumbers())
			}
			row = append(row, n)
		}
		rows = append(rows, row)
	}
	return rows
}

// P14: loops of all kinds of steps, several rows long, held against the chapter's words.
func TestThrown(t *testing.T) {
	seen, pushes := map[int]int{}, map[int]int{}
	for i := range 12000 {
		l, d := thrown(i, 7), dice(i)
		holdAgainstSaid(t, fmt.Sprint("thrown ", i), l, thrownRows(&d, l, 4))
		if t.Failed() {
			t.Fatalf("%.2000s", plain(l))
		}
		for _, s := range l.Steps {
			seen[s.Op]++
			for _, p := range s.E {
				pushes[p.Op]++
			}
		}
	}
	for op := api.LOne; op <= api.LScan; op++ {
		if seen[op] < 2000 {
			t.Errorf("the Op %d was seen %d times alone", op, seen[op])
		}
	}
	for op := api.PNum; op <= api.PAt; op++ {
		if pushes[op] < 2000 {
			t.Errorf("the step %d was seen %d times alone", op, pushes[op])
		}
	}
}

// P14.2: rows of a wrong length between the others change nothing of what these tell.
func TestThrownFaults(t *testing.T) {
	wrong := 0
	for i := range 4000 {
		l, d := thrown(i, 6), dice(i)
		m, a := begun(t, l), &tale{Loops: l}
		for at, row := range thrownRows(&d, l, 4) {
			for range d.below(3) {
				length := d.below(len(row) + 3)
				if length == len(row) {
					length++
				}
				wantWrong(t, fmt.Sprint("thrown ", i), m, append(slices.Clone(row), 8, 9, 10)[:length])
				wrong++
			}
			wantTold(t, fmt.Sprint("thrown ", i, " row ", at), m, row, a.row(row))
		}
		if t.Failed() {
			t.Fatalf("%.2000s", plain(l))
		}
	}
	if wrong < 3000 {
		t.Errorf("%d wrong rows alone", wrong)
	}
}

// P14.2: steps over more cells.
func TestThrownWide(t *testing.T) {
	for i := range 60 {
		d := dice(i)
		l := api.Loops{Cells: pick(&d, []int{299, 300, 301, 400}), Put: []int{0, 299 - 1}}
		for range 3 {
			l.Steps = append(l.Steps, thrownStep(&d, l.Cells))
		}
		l.Get = upTo(0, l.Cells)
		holdAgainstSaid(t, fmt.Sprint("thrown ", i), l, thrownRows(&d, l, 3))
	}
}
