package build

import "loomwork/api"

// weaver puts the steps of a system one behind the other.
type weaver struct {
	layout
	steps []api.Loop
}

func (w *weaver) add(steps ...api.Loop) { w.steps = append(w.steps, steps...) }

// addAll keeps things for the next row behind all rules: up to then what is kept is of
// the row ahead.
func (w *weaver) addAll() {
	w.eachRule(w.addRule)
	w.eachRule(func(r api.Rule, keep int) {
		if r.Op == api.QPre {
			w.add(w.copied(keep, r.A[1]))
		}
	})
	w.add(api.Loop{Op: api.LOne, To: cellOfRow, E: []api.Push{{Op: api.PNum, N: 1}}})
}

// eachRule hands over each rule, with where what it keeps lies.
func (w *weaver) eachRule(take func(r api.Rule, keep int)) {
	for number, r := range w.Rules {
		take(r, w.Keep[number])
	}
}

// addRule adds the steps of a rule in its normal form.
func (w *weaver) addRule(r api.Rule, keep int) {
	to, v := w.At[r.Out], w.Vars[r.Out]
	switch r.Op {
	case api.QEach:
		w.add(becomes(to, v, w.overCells(r.E)...))
	case api.QFoldE:
		w.add(w.folded(api.LFold, int(r.N), r))
	case api.QScanE:
		w.add(w.folded(api.LScan, v.N, r))
	case api.QCat:
		behind := to + w.width(r.A[0])
		w.add(w.copied(to, r.A[0]), w.copied(behind, r.A[1]))
	case api.QPre:
		first := w.At[r.A[0]]
		w.add(becomes(to, v, scalarAt(cellOfRow), cellAt(keep), cellAt(first), api.Push{Op: api.PSel}))
	}
}

// folded is as of an array, also over one cell.
func (w *weaver) folded(op, n int, r api.Rule) api.Loop {
	from := scalarAt(w.At[r.A[0]])
	return api.Loop{Op: op, K: r.K, N: n, To: w.At[r.Out], F: []api.Push{from}, E: w.overCells(r.E)}
}

// copied answers the step by which the cells from there on become what the variable is.
func (w *weaver) copied(to, variable int) api.Loop {
	return becomes(to, w.Vars[variable], cellAt(w.At[variable]))
}
