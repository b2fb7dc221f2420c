package loop

import (
	"slices"

	"loomwork/api"
	"loomwork/kinds"
)

const (
	mostPut   = api.MaxCells
	mostGet   = api.MaxVars * api.MaxArray
	mostSteps = 3 * api.MaxRules
)

const placeOfLoops = -1 // of a fault

// Check tells the first fault of loops.
func Check(l api.Loops) api.Fault {
	cells := arena(l.Cells)
	switch {
	case l.Cells < 1 || l.Cells > api.MaxCells:
		return api.Fault{Code: api.ErrSize, At: placeOfLoops}
	case len(l.Put) > mostPut || len(l.Get) > mostGet || len(l.Steps) > mostSteps:
		return api.Fault{Code: api.ErrMany, At: placeOfLoops}
	case slices.ContainsFunc(l.Put, cells.lacks) || slices.ContainsFunc(l.Get, cells.lacks):
		return api.Fault{Code: api.ErrRange, At: placeOfLoops}
	}
	if number := slices.IndexFunc(l.Steps, cells.bars); number >= 0 {
		return api.Fault{Code: api.ErrForm, At: number}
	}
	return api.Fault{}
}

// arena is how many cells there are.
type arena int

// has tells whether there are so many cells, one or more, from the first one on.
func (a arena) has(first, count int) bool { return first >= 0 && first <= int(a)-count }

func (a arena) lacks(cell int) bool { return !a.has(cell, 1) }

// bars tells whether the step cannot be done over the cells that there are.
func (a arena) bars(s api.Loop) bool {
	if s.Op < api.LOne || s.Op > api.LScan {
		return true
	}
	n := turns(s)
	if n < 1 || n > api.MaxArray {
		return true
	}
	if !a.has(s.To, cellsMade(s)) || !a.hasTree(s.E, n) {
		return true
	}
	return folds(s) && !(a.hasTree(s.F, 1) && operandsOf(s.K) == 2)
}

// turns: an LOne has one, whatever its N.
func turns(s api.Loop) int {
	if s.Op == api.LOne {
		return 1
	}
	return s.N
}

func cellsMade(s api.Loop) int {
	if s.Op == api.LFold {
		return 1
	}
	return turns(s)
}

func folds(s api.Loop) bool { return s.Op == api.LFold || s.Op == api.LScan }

// hasTree tells whether the steps are a tree for so many cells.
func (a arena) hasTree(steps []api.Push, n int) bool {
	if len(steps) > api.MaxTree {
		return false
	}
	height := 0 // of the stack
	for _, p := range steps {
		height -= takenBy(p)
		if height < 0 || !a.hasPush(p, n) {
			return false
		}
		height++
	}
	return height == 1
}

// hasPush tells whether a step may stand in a tree for so many cells.
func (a arena) hasPush(p api.Push, n int) bool {
	switch p.Op {
	case api.PNum, api.PSel:
		return true
	case api.PSca:
		return a.has(p.V, 1)
	case api.PArr:
		return a.has(p.V, n)
	case api.PIdx:
		return p.N >= -api.MaxNum && p.N <= api.MaxNum
	case api.PUn:
		return operandsOf(p.K) == 1
	case api.PBin:
		return operandsOf(p.K) == 2
	case api.PAt:
		return p.N >= 1 && a.has(p.V, int(p.N))
	}
	return false
}

// operandsOf answers how many numbers an operator takes; what is none takes none.
func operandsOf(k int) int {
	_, _, n := kinds.Op(k)
	return n
}
