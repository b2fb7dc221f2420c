package loop

import (
	"fmt"
	"testing"

	"loomwork/api"
	"loomwork/sys"
)

// saidFault is the first fault of loops, by the chapter's words.
func saidFault(l api.Loops) api.Fault {
	whole := func(code int) api.Fault { return api.Fault{Code: code, At: -1} }
	if l.Cells < 1 || l.Cells > 6000 {
		return whole(api.ErrSize)
	}
	if len(l.Put) > 6000 || len(l.Get) > 400*300 || len(l.Steps) > 3*400 {
		return whole(api.ErrMany)
	}
	for _, list := range [][]int{l.Put, l.Get} {
		for _, cell := range list {
			if !saidThere(l.Cells, cell, 1) {
				return whole(api.ErrRange)
			}
		}
	}
	for i, s := range l.Steps {
		if !saidStep(l.Cells, s) {
			return api.Fault{Code: api.ErrForm, At: i}
		}
	}
	return api.Fault{}
}

// saidThere looks for each cell by itself.
func saidThere(cells, first int, count int64) bool {
	for k := int64(0); k < count; k++ {
		if cell := int64(first) + k; cell < 0 || cell >= int64(cells) {
			return false
		}
	}
	return true
}

func saidStep(cells int, s api.Loop) bool {
	hasTurns := s.N >= 1 && s.N <= 300
	switch s.Op {
	case api.LOne:
		return saidThere(cells, s.To, 1) && saidTree(cells, s.E, 1)
	case api.LEach:
		return hasTurns && saidThere(cells, s.To, int64(s.N)) && saidTree(cells, s.E, s.N)
	case api.LFold:
		return hasTurns && saidThere(cells, s.To, 1) && saidTree(cells, s.E, s.N) && saidTree(cells, s.F, 1) && s.K >= api.KAdd && s.K <= api.KXor
	case api.LScan:
		return hasTurns && saidThere(cells, s.To, int64(s.N)) && saidTree(cells, s.E, s.N) && saidTree(cells, s.F, 1) && s.K >= api.KAdd && s.K <= api.KXor
	}
	return false
}

// saidTree reads steps from their end: all of them must be what the last one needs.
func saidTree(cells int, steps []api.Push, n int) bool {
	if len(steps) < 1 || len(steps) > 24 {
		return false
	}
	rest, isBranch := saidBranch(cells, steps, n)
	return isBranch && len(rest) == 0
}

// saidBranch answers the steps that the last one has no need of.
func saidBranch(cells int, steps []api.Push, n int) (rest []api.Push, isBranch bool) {
	if len(steps) == 0 {
		return nil, false
	}
	p, rest := steps[len(steps)-1], steps[:len(steps)-1]
	needs, isRight := saidPush(cells, p, n)
	if !isRight {
		return nil, false
	}
	for range needs {
		if rest, isRight = saidBranch(cells, rest, n); !isRight {
			return nil, false
		}
	}
	return rest, true
}

func saidPush(cells int, p api.Push, n int) (needs int, isRight bool) {
	switch p.Op {
	case api.PNum:
		return 0, true
	case api.PSca:
		return 0, saidThere(cells, p.V, 1)
	case api.PArr:
		return 0, saidThere(cells, p.V, int64(n))
	case api.PIdx:
		return 0, -1000000000000000000 <= p.N && p.N <= 1000000000000000000
	case api.PUn:
		return 1, p.K == api.KNeg || p.K == api.KNot
	case api.PBin:
		return 2, p.K >= api.KAdd && p.K <= api.KXor
	case api.PSel:
		return 3, true
	case api.PAt:
		return 2, p.N >= 1 && saidThere(cells, p.V, p.N)
	}
	return 0, false
}

// made is what a cell became.
type made struct {
	cell int
	n    int64
}

// tale is all that cells became, from the beginning of loops on: a cell is what it became
// last.
type tale struct {
	api.Loops
	all []made
}

func (a *tale) becomes(cell int, n int64) { a.all = append(a.all, made{cell, n}) }

func (a *tale) is(cell int) int64 {
	for i := len(a.all) - 1; i >= 0; i-- {
		if a.all[i].cell == cell {
			return a.all[i].n
		}
	}
	return 0
}

func (a *tale) cells() []int64 {
	list := make([]int64, a.Cells)
	for _, m := range a.all {
		list[m.cell] = m.n
	}
	return list
}

// row is what a row tells.
func (a *tale) row(in []int64) []int64 {
	for i, n := range in {
		a.becomes(a.Put[i], n)
	}
	for _, s := range a.Steps {
		a.step(s)
	}
	a.forget()
	var told []int64
	for _, cell := range a.Get {
		told = append(told, a.is(cell))
	}
	return told
}

// forget keeps what the cells are alone, so that the tale does not grow row by row.
func (a *tale) forget() {
	list := a.cells()
	a.all = nil
	for cell, n := range list {
		a.becomes(cell, n)
	}
}

func (a *tale) step(s api.Loop) {
	switch s.Op {
	case api.LOne:
		a.becomes(s.To, a.tree(s.E, 0))
	case api.LEach:
		for k := 0; k < s.N; k++ {
			a.becomes(s.To+k, a.tree(s.E, int64(k)))
		}
	default:
		a.fold(s)
	}
}

func (a *tale) fold(s api.Loop) {
	v := a.tree(s.F, 0)
	for k := 0; k < s.N; k++ {
		e := a.tree(s.E, int64(k))
		v = sys.Apply(s.K, v, e)
		if s.Op == api.LScan {
			a.becomes(s.To+k, v)
		}
	}
	if s.Op == api.LFold {
		a.becomes(s.To, v)
	}
}

func (a *tale) tree(steps []api.Push, k int64) int64 {
	n, rest := a.branch(steps, k)
	if len(rest) > 0 {
		panic("more than one is left")
	}
	return n
}

// branch is what the last of the steps makes, and the steps that it had no need of.
func (a *tale) branch(steps []api.Push, k int64) (int64, []api.Push) {
	p, rest := steps[len(steps)-1], steps[:len(steps)-1]
	back := func() (n int64) {
		n, rest = a.branch(rest, k)
		return n
	}
	switch p.Op {
	case api.PNum:
		return p.N, rest
	case api.PSca:
		return a.is(p.V), rest
	case api.PArr:
		return a.is(p.V + int(k)), rest
	case api.PIdx:
		return k + p.N, rest
	case api.PUn:
		n := back()
		return sys.Apply(p.K, n, 99), rest
	case api.PBin:
		b := back()
		first := back()
		return sys.Apply(p.K, first, b), rest
	case api.PSel:
		second := back()
		first := back()
		if back() == 0 {
			return second, rest
		}
		return first, rest
	}
	other := back()
	place := back()
	for cell := int64(0); cell < p.N; cell++ {
		if cell == place {
			return a.is(p.V + int(cell)), rest
		}
	}
	return other, rest
}

// holdAgainstSaid gives loops the rows, and holds what they tell, and their cells,
// against the chapter's words.
func holdAgainstSaid(t *testing.T, what string, l api.Loops, rows [][]int64) {
	t.Helper()
	m, a := wantRight(t, what, l), &tale{Loops: l}
	if m == nil {
		return
	}
	for i, row := range rows {
		name := fmt.Sprint(what, ", row ", i)
		wantTold(t, name, m, row, a.row(row))
		wantSame(t, name+": cells", m.Cells(), a.cells())
	}
}
