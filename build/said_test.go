package build

import (
	"slices"
	"testing"

	"loomwork/api"
	"loomwork/order"
	"loomwork/sys"
)

// cellsThere are the cells from the cell at on, of those from 1 to the last one, as far as
// the variable has some.
func cellsThere(v api.Var, at, cells int) []int {
	var there []int
	for k := 0; k < max(1, v.N); k++ {
		if cell := at + k; 1 <= cell && cell <= cells-1 {
			there = append(there, cell)
		}
	}
	return there
}

// saidFits is what chapter 15 says of plans that fit.
func saidFits(s api.System, p api.Plan) bool {
	if len(p.At) != len(s.Vars) || len(p.Keep) != len(s.Rules) || p.Cells <= 0 || p.Cells > 6000 {
		return false
	}
	isAll := func(variable, at int) bool {
		return len(cellsThere(s.Vars[variable], at, p.Cells)) == max(1, s.Vars[variable].N)
	}
	for v := range s.Vars {
		isMade := slices.ContainsFunc(s.Rules, func(r api.Rule) bool { return r.Out == v })
		if (isMade || slices.Contains(s.In, v)) && !isAll(v, p.At[v]) {
			return false
		}
	}
	for i, r := range s.Rules {
		if r.Op != api.QPre && p.Keep[i] >= 0 || r.Op == api.QPre && !isAll(r.Out, p.Keep[i]) {
			return false
		}
	}
	return true
}

// saidFault is which fault chapter 15 asks for.
func saidFault(s api.System, p api.Plan) api.Fault {
	switch {
	case sys.Check(s) != api.Fault{}:
		return sys.Check(s)
	case !order.Sorted(s):
		return api.Fault{Code: 15, At: -1}
	case !saidFits(s, p):
		return api.Fault{Code: 16, At: -1}
	}
	for i, r := range s.Rules {
		if r.Op <= 11 {
			return api.Fault{Code: 4, At: i}
		}
	}
	return api.Fault{}
}

// saidTree is what a tree of variables is over cells.
func saidTree(s api.System, p api.Plan, steps []api.Push, isOfScalar bool) []api.Push {
	var over []api.Push
	for _, step := range steps {
		as := step
		switch {
		case step.Op == api.PNum, step.Op == api.PIdx && isOfScalar:
			as = num(step.N)
		case step.Op == api.PSca:
			as = sca(p.At[step.V])
		case step.Op == api.PArr && isOfScalar:
			as = sca(int(step.N) + p.At[step.V])
		case step.Op == api.PArr:
			as = arr(int(step.N)+p.At[step.V], 0)
		case step.Op == api.PAt:
			as = at(p.At[step.V], int64(s.Vars[step.V].N))
		}
		over = append(over, as)
	}
	return over
}

// saidCopy is the step that makes a variable's cells those from another cell on.
func saidCopy(v api.Var, to, from int) api.Loop {
	if v.N > 0 {
		return api.Loop{Op: api.LEach, N: v.N, To: to, E: []api.Push{arr(from, 0)}}
	}
	return api.Loop{Op: api.LOne, To: to, E: []api.Push{sca(from)}}
}

// saidRule are the steps that make what a rule makes.
func saidRule(s api.System, p api.Plan, i int) []api.Loop {
	r := s.Rules[i]
	out, to := s.Vars[r.Out], p.At[r.Out]
	var e []api.Push
	if r.Op > api.QPre {
		e = saidTree(s, p, r.E, r.Op == api.QEach && out.N == 0)
	}
	switch {
	case r.Op == api.QEach && out.N == 0:
		return []api.Loop{{Op: api.LOne, To: to, E: e}}
	case r.Op == api.QEach:
		return []api.Loop{{Op: api.LEach, N: out.N, To: to, E: e}}
	case r.Op == api.QFoldE:
		return []api.Loop{{Op: api.LFold, K: r.K, N: int(r.N), To: to, F: []api.Push{sca(p.At[r.A[0]])}, E: e}}
	case r.Op == api.QScanE:
		return []api.Loop{{Op: api.LScan, K: r.K, N: out.N, To: to, F: []api.Push{sca(p.At[r.A[0]])}, E: e}}
	case r.Op == api.QCat:
		one, two := s.Vars[r.A[0]], s.Vars[r.A[1]]
		return []api.Loop{saidCopy(one, to, p.At[r.A[0]]), saidCopy(two, to+one.N, p.At[r.A[1]])}
	}
	step := saidCopy(out, to, p.Keep[i])
	first := saidCopy(out, to, p.At[r.A[0]]).E
	step.E = slices.Concat([]api.Push{sca(0)}, step.E, first, []api.Push{{Op: api.PSel}})
	return []api.Loop{step}
}

// said is what chapter 15 says of a system and a plan that have no fault.
func said(s api.System, p api.Plan) (l api.Loops, bools []int) {
	l.Cells = p.Cells
	for i := range s.Rules {
		l.Steps = append(l.Steps, saidRule(s, p, i)...)
	}
	for i, r := range s.Rules {
		if r.Op == api.QPre {
			l.Steps = append(l.Steps, saidCopy(s.Vars[r.Out], p.Keep[i], p.At[r.A[1]]))
		}
	}
	l.Steps = append(l.Steps, api.Loop{Op: api.LOne, E: []api.Push{num(1)}})
	for _, v := range s.In {
		cells := cellsThere(s.Vars[v], p.At[v], p.Cells)
		l.Put = append(l.Put, cells...)
		if s.Vars[v].Elem == 'b' {
			bools = append(bools, cells...)
		}
	}
	for _, v := range s.Out {
		l.Get = append(l.Get, cellsThere(s.Vars[v], p.At[v], p.Cells)...)
	}
	return l, bools
}

// holdAgainstSaid answers the code of the fault that must be told.
func holdAgainstSaid(t *testing.T, what string, s api.System, p api.Plan) int {
	t.Helper()
	if want := saidFault(s, p); want.Code != 0 {
		wantFault(t, what, s, p, want.Code, want.At)
		return want.Code
	}
	l, bools := made(t, what, s, p)
	want, wantBools := said(s, p)
	wantSame(t, what+": loops", l, want)
	wantSame(t, what+": bools", bools, wantBools)
	return 0
}
