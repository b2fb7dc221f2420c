package fuse

import (
	"slices"

	"loomwork/api"
	"loomwork/order"
)

// former brings the rules of a system into their normal form.
type former struct{ api.System }

// formAll answers the normal form in memory of its own.
func (f former) formAll() api.System {
	normal := api.System{Vars: slices.Clone(f.Vars), In: slices.Clone(f.In), Out: slices.Clone(f.Out)}
	for _, r := range f.Rules {
		normal.Rules = append(normal.Rules, f.form(r))
	}
	return normal
}

func (f former) form(r api.Rule) api.Rule {
	switch r.Op {
	case api.QCat, api.QPre, api.QEach, api.QFoldE, api.QScanE:
		return order.Own(r)
	case api.QFold:
		cells := int64(f.Vars[r.A[1]].N)
		return api.Rule{Op: api.QFoldE, K: r.K, Out: r.Out, N: cells, A: []int{r.A[0]}, E: f.steps(r.A[1])}
	case api.QScan:
		return api.Rule{Op: api.QScanE, K: r.K, Out: r.Out, A: []int{r.A[0]}, E: f.steps(r.A[1])}
	}
	return api.Rule{Op: api.QEach, Out: r.Out, E: f.tree(r)}
}

// tree is of the rules that become a QEach.
func (f former) tree(r api.Rule) []api.Push {
	switch r.Op {
	case api.QNum:
		return []api.Push{f.number(r)}
	case api.QUn:
		return append(f.steps(r.A...), api.Push{Op: api.PUn, K: r.K})
	case api.QBin:
		return append(f.steps(r.A...), api.Push{Op: api.PBin, K: r.K})
	case api.QIf:
		return append(f.steps(r.A...), api.Push{Op: api.PSel})
	case api.QIndex:
		return append(f.steps(r.A[1], r.A[2]), api.Push{Op: api.PAt, V: r.A[0]})
	case api.QWith:
		isPlace := []api.Push{{Op: api.PIdx}, f.step(r.A[1]), {Op: api.PBin, K: api.KEq}}
		return slices.Concat(isPlace, f.steps(r.A[2], r.A[0]), []api.Push{{Op: api.PSel}})
	case api.QSlice:
		return []api.Push{{Op: api.PArr, V: r.A[0], N: r.N}}
	}
	return f.steps(r.A...) // QCopy, QFill
}

func (f former) number(r api.Rule) api.Push {
	p := api.Push{Op: api.PNum, N: r.N}
	if f.Vars[r.Out].Elem == 'b' {
		p.K = 1
	}
	return p
}

func (f former) step(variable int) api.Push {
	if f.Vars[variable].N == 0 {
		return api.Push{Op: api.PSca, V: variable}
	}
	return api.Push{Op: api.PArr, V: variable}
}

// steps are those of variables, as many as there are, one behind the other.
func (f former) steps(variables ...int) []api.Push {
	var steps []api.Push
	for _, variable := range variables {
		steps = append(steps, f.step(variable))
	}
	return steps
}
