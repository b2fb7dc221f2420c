package mean

import (
	"slices"

	"loomwork/api"
)

// row is a sorted system in one row. No list of cells is changed once it is made.
type row struct {
	api.System
	cells [][]int64       // of each variable; nil until it is made
	ahead map[int][]int64 // the cells of variables in the row ahead; of none in the first row
}

func isNoTruth(n int64) bool { return n != 0 && n != 1 }

// take makes In's variables of what is given, and tells why that is no row. It
// keeps none of it: what is given is not ours.
func (r *row) take(in []int64) api.Fault {
	if len(in) != Width(r.System, r.In) {
		return api.Fault{Code: api.ErrRow, At: -1}
	}
	at := 0
	for _, variable := range r.In {
		v := r.Vars[variable]
		cells := slices.Clone(in[at : at+cellCount(v)])
		if wrong := slices.IndexFunc(cells, isNoTruth); v.Elem == 'b' && wrong >= 0 {
			return api.Fault{Code: api.ErrRow, At: at + wrong}
		}
		r.cells[variable] = cells
		at += len(cells)
	}
	return api.Fault{}
}

// run makes all other variables: each rule comes behind those that make what it
// needs.
func (r *row) run() {
	for _, rule := range r.Rules {
		r.cells[rule.Out] = each(cellCount(r.Vars[rule.Out]), making{r, rule}.cell())
	}
}

// keep answers what the next row asks of this one.
func (r *row) keep() map[int][]int64 {
	kept := map[int][]int64{}
	for _, rule := range r.Rules {
		if rule.Op == api.QPre {
			kept[rule.A[1]] = r.cells[rule.A[1]]
		}
	}
	return kept
}

func (r *row) told() []int64 {
	told := make([]int64, 0, Width(r.System, r.Out))
	for _, variable := range r.Out {
		told = append(told, r.cells[variable]...)
	}
	return told
}
