package mean

import (
	"loomwork/api"
	"loomwork/sys"
)

// tree answers what the steps of a rule make in the cell k.
func (m making) tree(k int) int64 {
	stack := make([]int64, 0, api.MaxTree)
	for _, p := range m.E {
		rest := len(stack) - takenBy(p.Op)
		stack = append(stack[:rest], m.madeBy(p, stack[rest:], k))
	}
	return stack[0]
}

// takenBy answers how many things a step takes from the stack's top.
func takenBy(op int) int {
	switch op {
	case api.PUn:
		return 1
	case api.PBin, api.PAt:
		return 2
	case api.PSel:
		return 3
	}
	return 0
}

// madeBy answers what a step lays upon the stack in place of what it took.
func (m making) madeBy(p api.Push, taken []int64, k int) int64 {
	switch p.Op {
	case api.PSca:
		return m.cells[p.V][0]
	case api.PArr:
		return m.cells[p.V][k+int(p.N)]
	case api.PIdx:
		return int64(k) + p.N
	case api.PUn:
		return sys.Apply(p.K, taken[0], 0)
	case api.PBin:
		return sys.Apply(p.K, taken[0], taken[1])
	case api.PSel:
		if taken[0] != 0 {
			return taken[1]
		}
		return taken[2]
	case api.PAt:
		return cellAt(m.cells[p.V], taken[0], taken[1])
	}
	return p.N // PNum
}
