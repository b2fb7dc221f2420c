package mean

import (
	"testing"

	"loomwork/api"
	"loomwork/sys"
)

// history is a system with all rows that it is given. What a cell is, is asked from
// its end: of the rule that makes it, and so on back to what is given; rules are
// never sorted, and nothing is kept from row to row.
type history struct {
	api.System
	rows  [][]int64
	known map[[3]int]int64
}

func historyOf(s api.System, rows ...[]int64) *history {
	return &history{System: s, rows: rows, known: map[[3]int]int64{}}
}

// told is what Out's variables are in a row.
func (h *history) told(row int) []int64 {
	var list []int64
	for _, v := range h.Out {
		for k := range max(1, h.Vars[v].N) {
			list = append(list, h.cell(row, v, k))
		}
	}
	return list
}

func (h *history) cell(row, v, k int) int64 {
	key := [3]int{row, v, k}
	n, isKnown := h.known[key]
	if !isKnown {
		n = h.asked(row, v, k)
		h.known[key] = n
	}
	return n
}

func (h *history) asked(row, v, k int) int64 {
	place := 0
	for _, in := range h.In {
		if in == v {
			return h.rows[row][place+k]
		}
		place += max(1, h.Vars[in].N)
	}
	for _, r := range h.Rules {
		if r.Out == v {
			return h.byRule(row, r, k)
		}
	}
	panic("nobody makes it")
}

// byRule is the cell k of what a rule makes.
func (h *history) byRule(row int, r api.Rule, k int) int64 {
	a := func(i, k int) int64 { return h.cell(row, r.A[i], k) }
	one := func(i int) int64 { return a(i, 0) }
	size := func(i int) int { return h.Vars[r.A[i]].N }
	switch r.Op {
	case api.QNum:
		return r.N
	case api.QCopy:
		return a(0, k)
	case api.QUn:
		return sys.Apply(r.K, a(0, k), 99)
	case api.QBin:
		return sys.Apply(r.K, a(0, k), a(1, k))
	case api.QIf:
		return a(2-int(one(0)), k)
	case api.QFold:
		return h.folded(row, r, size(1)-1, func(k int) int64 { return a(1, k) })
	case api.QScan:
		return h.folded(row, r, k, func(k int) int64 { return a(1, k) })
	case api.QFill:
		return one(0)
	case api.QIndex:
		return h.found(row, r.A[0], one(1), one(2))
	case api.QWith:
		if one(1) == int64(k) {
			return one(2)
		}
		return a(0, k)
	case api.QSlice:
		return a(0, k+int(r.N))
	case api.QCat:
		if k >= size(0) {
			return a(1, k-size(0))
		}
		return a(0, k)
	case api.QPre:
		if row == 0 {
			return a(0, k)
		}
		return h.cell(row-1, r.A[1], k)
	case api.QFoldE:
		return h.folded(row, r, int(r.N)-1, func(k int) int64 { return h.tree(row, r.E, k) })
	case api.QScanE:
		return h.folded(row, r, k, func(k int) int64 { return h.tree(row, r.E, k) })
	}
	return h.tree(row, r.E, k)
}

// folded is what the operator makes up to that cell, from the one ahead of it on,
// back to the beginning.
func (h *history) folded(row int, r api.Rule, upTo int, of func(int) int64) int64 {
	if upTo < 0 {
		return h.cell(row, r.A[0], 0)
	}
	return sys.Apply(r.K, h.folded(row, r, upTo-1, of), of(upTo))
}

// found is the cell of an array at a place, or else the other number.
func (h *history) found(row, array int, place, other int64) int64 {
	for k := range h.Vars[array].N {
		if int64(k) == place {
			return h.cell(row, array, k)
		}
	}
	return other
}

// tree reads the steps from their end, as what stands in front of an operator.
func (h *history) tree(row int, steps []api.Push, k int) int64 {
	n, rest := h.branch(row, steps, k)
	if len(rest) > 0 {
		panic("more than one is left")
	}
	return n
}

// branch is what the last of the steps makes, and the steps that it had no need of.
func (h *history) branch(row int, steps []api.Push, k int) (int64, []api.Push) {
	p, rest := steps[len(steps)-1], steps[:len(steps)-1]
	back := func() (n int64) {
		n, rest = h.branch(row, rest, k)
		return n
	}
	switch p.Op {
	case api.PNum:
		return p.N, rest
	case api.PSca:
		return h.cell(row, p.V, 0), rest
	case api.PArr:
		return h.cell(row, p.V, k+int(p.N)), rest
	case api.PIdx:
		return int64(k) + p.N, rest
	case api.PUn:
		n := back()
		return sys.Apply(p.K, n, 99), rest
	case api.PBin:
		b := back()
		a := back()
		return sys.Apply(p.K, a, b), rest
	case api.PSel:
		second := back()
		first := back()
		if isSo := back(); isSo == 1 {
			return first, rest
		}
		return second, rest
	}
	other := back()
	place := back()
	return h.found(row, p.V, place, other), rest
}

// holdAgainstSaid gives a system the rows, and holds what it tells against the
// chapter's words.
func holdAgainstSaid(t *testing.T, what string, s api.System, rows [][]int64) {
	t.Helper()
	m, h := begun(t, s), historyOf(s, rows...)
	for i, row := range rows {
		wantTold(t, what, m, row, h.told(i))
	}
}
