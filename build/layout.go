package build

import (
	"slices"

	"loomwork/api"
	"loomwork/mean"
	"loomwork/order"
	"loomwork/sys"
)

const placeOfSystem = -1 // of a fault

// cellOfRow says whether a row has been run: nothing else may lie there.
const cellOfRow = 0

// layout is a system whose variables lie as a plan says.
type layout struct {
	api.System
	api.Plan
}

// fault looks for sys.Check's first: of what is no system nothing else can be asked.
func (l layout) fault() api.Fault {
	if fault := sys.Check(l.System); fault.Code != 0 {
		return fault
	}
	if !order.Sorted(l.System) {
		return api.Fault{Code: api.ErrRound, At: placeOfSystem}
	}
	if !l.fits() {
		return api.Fault{Code: api.ErrRange, At: placeOfSystem}
	}
	if number := slices.IndexFunc(l.Rules, hasOtherForm); number >= 0 {
		return api.Fault{Code: api.ErrForm, At: number}
	}
	return api.Fault{}
}

func hasOtherForm(r api.Rule) bool {
	switch r.Op {
	case api.QEach, api.QFoldE, api.QScanE, api.QCat, api.QPre:
		return false
	}
	return true
}

// fits tells whether the plan is one for that system. What it says of a variable that is
// neither given nor made is not asked: nobody uses that.
func (l layout) fits() bool {
	if len(l.At) != len(l.Vars) || len(l.Keep) != len(l.Rules) {
		return false
	}
	if l.Cells < 1 || l.Cells > api.MaxCells || slices.ContainsFunc(l.In, l.isAstray) {
		return false
	}
	for number, r := range l.Rules {
		if l.isAstray(r.Out) || !l.keepsRightly(r, l.Keep[number]) {
			return false
		}
	}
	return true
}

func (l layout) isAstray(variable int) bool { return !l.hasFrom(l.At[variable], variable) }

// hasFrom tells whether there are as many cells as the variable has, from the first on.
func (l layout) hasFrom(first, variable int) bool {
	return first > cellOfRow && first <= l.Cells-l.width(variable)
}

func (l layout) keepsRightly(r api.Rule, keep int) bool {
	if r.Op == api.QPre {
		return l.hasFrom(keep, r.Out)
	}
	return keep < 0
}

func (l layout) width(variable int) int { return mean.Width(l.System, []int{variable}) }

// cellsOf answers the cells of variables, as many as there are, one behind the other.
func (l layout) cellsOf(variables ...int) []int {
	cells := make([]int, 0, mean.Width(l.System, variables))
	for _, variable := range variables {
		for k := range l.width(variable) {
			cells = append(cells, l.At[variable]+k)
		}
	}
	return cells
}

// truths answers which of the variables that are given are truths.
func (l layout) truths() []int {
	isNumber := func(variable int) bool { return l.Vars[variable].Elem != 'b' }
	return slices.DeleteFunc(slices.Clone(l.In), isNumber)
}
