package loop

import (
	"loomwork/api"
	"loomwork/sys"
)

// do does a step. Each cell is made of things as they are then, be it that the step
// itself made them.
func (m *Machine) do(s api.Loop) {
	switch s.Op {
	case api.LOne:
		m.cells[s.To] = m.tree(s.E, 0)
	case api.LEach:
		for k := range s.N {
			m.cells[s.To+k] = m.tree(s.E, k)
		}
	case api.LFold:
		v := m.tree(s.F, 0)
		for k := range s.N {
			v = sys.Apply(s.K, v, m.tree(s.E, k))
		}
		m.cells[s.To] = v
	case api.LScan:
		v := m.tree(s.F, 0)
		for k := range s.N {
			v = sys.Apply(s.K, v, m.tree(s.E, k))
			m.cells[s.To+k] = v
		}
	}
}

// tree answers what the steps make at the turn k.
func (m *Machine) tree(steps []api.Push, k int) int64 {
	stack := make([]int64, 0, api.MaxTree)
	for _, p := range steps {
		rest := len(stack) - takenBy(p)
		stack = append(stack[:rest], m.madeBy(p, stack[rest:], k))
	}
	return stack[0]
}

// takenBy answers how many numbers a step takes from the stack's top.
func takenBy(p api.Push) int {
	switch p.Op {
	case api.PUn:
		return 1
	case api.PBin, api.PAt:
		return 2
	case api.PSel:
		return 3
	}
	return 0
}

// madeBy answers what a step lays upon the stack in place of what it took.
func (m *Machine) madeBy(p api.Push, taken []int64, k int) int64 {
	switch p.Op {
	case api.PSca:
		return m.cells[p.V]
	case api.PArr:
		return m.cells[p.V+k]
	case api.PIdx:
		return int64(k) + p.N
	case api.PUn:
		return sys.Apply(p.K, taken[0], 0)
	case api.PBin:
		return sys.Apply(p.K, taken[0], taken[1])
	case api.PSel:
		if taken[0] != 0 {
			return taken[1]
		}
		return taken[2]
	case api.PAt:
		if taken[0] < 0 || taken[0] >= p.N {
			return taken[1]
		}
		return m.cells[p.V+int(taken[0])]
	}
	return p.N // PNum
}
