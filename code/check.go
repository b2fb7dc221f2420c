package code

import (
	"slices"

	"loomwork/api"
	"loomwork/kinds"
)

const (
	mostPut = api.MaxCells
	mostGet = api.MaxVars * api.MaxArray
)

const placeOfImage = -1 // of a fault

// Check tells the first fault of an image.
func Check(m api.Image) api.Fault {
	r := room{cells: m.Cells, regs: m.Regs}
	switch {
	case !r.mayBe():
		return api.Fault{Code: api.ErrSize, At: placeOfImage}
	case hasTooMany(m):
		return api.Fault{Code: api.ErrMany, At: placeOfImage}
	case r.lacksCellOf(m.Put, m.Bools, m.Get):
		return api.Fault{Code: api.ErrRange, At: placeOfImage}
	}
	if number := slices.IndexFunc(m.Code, r.bars); number >= 0 {
		return api.Fault{Code: api.ErrForm, At: number}
	}
	if cost := Cost(m.Code); cost != m.Cost || cost == 0 && len(m.Code) > 0 {
		return api.Fault{Code: api.ErrCode, At: placeOfImage}
	}
	return api.Fault{}
}

func hasTooMany(m api.Image) bool {
	return len(m.Put) > mostPut || len(m.Bools) > mostPut || len(m.Get) > mostGet || len(m.Code) > api.MaxCode
}

// room is how many cells and registers there are.
type room struct{ cells, regs int }

func (r room) mayBe() bool {
	return r.cells >= 1 && r.cells <= api.MaxCells && r.regs >= 1 && r.regs <= api.MaxRegs
}

// hasCells tells whether there are so many cells, one or more, from the first one on.
func (r room) hasCells(first int64, count int) bool {
	return first >= 0 && first <= int64(r.cells-count)
}

// lacksCellOf tells whether one of the lists names a cell that is not there.
func (r room) lacksCellOf(lists ...[]int) bool {
	return slices.ContainsFunc(lists, func(cells []int) bool {
		return slices.ContainsFunc(cells, func(cell int) bool { return !r.hasCells(int64(cell), 1) })
	})
}

// lacks tells whether one of the registers is not there.
func (r room) lacks(registers ...int) bool {
	return slices.ContainsFunc(registers, func(register int) bool { return register < 0 || register >= r.regs })
}

// bars tells whether the instruction cannot be done with what there is. Fields that it
// does not name may be anything.
func (r room) bars(i api.Ins) bool {
	switch i.Op {
	case api.INum:
		return r.lacks(i.R)
	case api.ILoad, api.IStore:
		return r.lacks(i.R) || !r.hasCells(i.N, 1)
	case api.ILoadX, api.IStoreX:
		return r.lacks(i.R, i.A) || i.B < 1 || !r.hasCells(i.N, i.B)
	case api.IUn:
		return r.lacks(i.R, i.A) || operandsOf(i.K) != 1
	case api.IBin:
		return r.lacks(i.R, i.A, i.B) || operandsOf(i.K) != 2
	case api.ISel:
		return r.lacks(i.R, i.A, i.B)
	case api.IMove:
		return r.lacks(i.R, i.A)
	case api.ILoop:
		return r.lacks(i.R) || !mayTurn(i.N)
	case api.IEnd:
		return false
	}
	return true
}

// operandsOf answers how many numbers an operator takes; what is none takes none.
func operandsOf(k int) int {
	_, _, n := kinds.Op(k)
	return n
}
