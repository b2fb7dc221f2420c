package build

import (
	"slices"

	"loomwork/api"
)

func scalarAt(cell int) api.Push { return api.Push{Op: api.PSca, V: cell} }

// cellAt is of an array whose cells lie from there on; in a step that makes a scalar it
// becomes scalarAt.
func cellAt(first int) api.Push { return api.Push{Op: api.PArr, V: first} }

// becomes answers the step by which a thing of that type, which lies from there on, becomes
// what the pushes make, as many as there are.
func becomes(to int, v api.Var, pushes ...api.Push) api.Loop {
	if v.N == 0 {
		return api.Loop{Op: api.LOne, To: to, E: ofScalar(pushes...)}
	}
	return api.Loop{Op: api.LEach, N: v.N, To: to, E: slices.Clone(pushes)}
}

// ofScalar answers pushes that do the same, and do not ask for a turn: the only one is 0.
func ofScalar(pushes ...api.Push) []api.Push {
	tree := slices.Clone(pushes)
	for i, p := range tree {
		switch p.Op {
		case api.PArr:
			tree[i] = scalarAt(p.V)
		case api.PIdx:
			tree[i] = api.Push{Op: api.PNum, N: p.N}
		}
	}
	return tree
}

// overCells answers a tree of variables as one of the cells where they lie.
func (l layout) overCells(tree []api.Push) []api.Push {
	var pushes []api.Push
	for _, p := range tree {
		pushes = append(pushes, l.overCell(p))
	}
	return pushes
}

func (l layout) overCell(p api.Push) api.Push {
	switch p.Op {
	case api.PNum:
		return api.Push{Op: api.PNum, N: p.N} // over cells there are no types
	case api.PSca:
		return scalarAt(l.At[p.V])
	case api.PArr:
		return cellAt(l.At[p.V] + int(p.N))
	case api.PAt:
		return api.Push{Op: api.PAt, V: l.At[p.V], N: int64(l.Vars[p.V].N)}
	}
	return p
}
