package mean

import (
	"loomwork/api"
	"loomwork/sys"
)

// making is a rule that makes its variable in a row.
type making struct {
	*row
	api.Rule
}

func (m making) part(number int) []int64 { return m.cells[m.A[number]] }

func (m making) scalar(number int) int64 { return m.part(number)[0] }

// cell answers the function that tells each cell of what is made. It is to be asked
// of all cells, rising, each once: a fold goes on from where it was.
func (m making) cell() func(k int) int64 {
	switch m.Op {
	case api.QNum:
		return always(m.N)
	case api.QCopy:
		return cellOf(m.part(0))
	case api.QUn:
		a := m.part(0)
		return func(k int) int64 { return sys.Apply(m.K, a[k], 0) }
	case api.QBin:
		a, b := m.part(0), m.part(1)
		return func(k int) int64 { return sys.Apply(m.K, a[k], b[k]) }
	case api.QIf:
		if m.scalar(0) != 0 {
			return cellOf(m.part(1))
		}
		return cellOf(m.part(2))
	case api.QFill:
		return always(m.scalar(0))
	case api.QIndex:
		return always(cellAt(m.part(0), m.scalar(1), m.scalar(2)))
	case api.QWith:
		return m.cellWith()
	case api.QSlice:
		array, from := m.part(0), int(m.N)
		return func(k int) int64 { return array[from+k] }
	case api.QCat:
		return m.cellOfBoth()
	case api.QPre:
		return cellOf(m.before())
	}
	return m.cellOfWalk()
}

// cellOfWalk is cell of the rules that go over cells with a fold or a tree.
func (m making) cellOfWalk() func(k int) int64 {
	switch m.Op {
	case api.QFold:
		array := m.part(1)
		return always(last(len(array), m.soFar(cellOf(array))))
	case api.QScan:
		return m.soFar(cellOf(m.part(1)))
	case api.QFoldE:
		return always(last(int(m.N), m.soFar(m.tree)))
	case api.QScanE:
		return m.soFar(m.tree)
	}
	return m.tree // QEach
}

func (m making) cellWith() func(k int) int64 {
	array, place, other := m.part(0), m.scalar(1), m.scalar(2)
	return func(k int) int64 {
		if int64(k) == place {
			return other
		}
		return array[k]
	}
}

func (m making) cellOfBoth() func(k int) int64 {
	front, behind := m.part(0), m.part(1)
	return func(k int) int64 {
		if k < len(front) {
			return front[k]
		}
		return behind[k-len(front)]
	}
}

// before answers what a QPre tells. What it tells in later rows may not have been
// made yet in this one.
func (m making) before() []int64 {
	if before, been := m.ahead[m.A[1]]; been {
		return before
	}
	return m.part(0)
}

// soFar answers the function that tells, of cell behind cell, what the operator has
// made of the beginning and all of them.
func (m making) soFar(next func(k int) int64) func(k int) int64 {
	v := m.scalar(0)
	return func(k int) int64 {
		v = sys.Apply(m.K, v, next(k))
		return v
	}
}

func always(n int64) func(k int) int64 { return func(int) int64 { return n } }

func cellOf(list []int64) func(k int) int64 { return func(k int) int64 { return list[k] } }

// cellAt answers the cell at the place, or the other number, if there is none.
func cellAt(list []int64, place, other int64) int64 {
	if place < 0 || place >= int64(len(list)) {
		return other
	}
	return list[place]
}

// each answers so many cells, each as the function tells it.
func each(count int, cell func(k int) int64) []int64 {
	cells := make([]int64, count)
	for k := range cells {
		cells[k] = cell(k)
	}
	return cells
}

// last answers what the function tells of the last of so many cells.
func last(count int, cell func(k int) int64) int64 {
	var n int64
	for k := range count {
		n = cell(k)
	}
	return n
}
