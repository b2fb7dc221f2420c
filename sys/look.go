package sys

import (
	"slices"

	"loomwork/api"
)

// look goes over a system from its front to its end.
type look struct {
	api.System
	made []bool // which variables are In, or made by a rule that it has been at
}

func codeOfType(v api.Var) int {
	switch {
	case v.Elem != 'i' && v.Elem != 'b':
		return api.ErrType
	case v.N < 0 || v.N > api.MaxArray:
		return api.ErrSize
	}
	return 0
}

func (l *look) isNone(variable int) bool { return variable < 0 || variable >= len(l.Vars) }

func (l *look) codeOfNumber(variable int) int {
	if l.isNone(variable) {
		return api.ErrRange
	}
	return 0
}

// codeOfGiven takes note that a variable is In.
func (l *look) codeOfGiven(variable int) int {
	switch {
	case l.isNone(variable):
		return api.ErrRange
	case l.made[variable]:
		return api.ErrTwice
	}
	l.made[variable] = true
	return 0
}

// codeOfRule takes note that a rule makes its variable.
func (l *look) codeOfRule(r api.Rule) int {
	switch {
	case l.isNone(r.Out):
		return api.ErrRange
	case l.made[r.Out]:
		return api.ErrTwice
	case !hasForm(r):
		return api.ErrForm
	case len(own(r).E) > api.MaxTree:
		return api.ErrMany
	case slices.ContainsFunc(Uses(own(r)), l.isNone):
		return api.ErrRange
	case !l.fits(r):
		return api.ErrType
	}
	l.made[r.Out] = true
	return 0
}

// partCounts: how many A a rule must have.
var partCounts = [...]int{
	api.QNum:   0,
	api.QCopy:  1,
	api.QUn:    1,
	api.QBin:   2,
	api.QIf:    3,
	api.QFold:  2,
	api.QScan:  2,
	api.QFill:  1,
	api.QIndex: 3,
	api.QWith:  3,
	api.QSlice: 1,
	api.QCat:   2,
	api.QPre:   2,
	api.QEach:  0,
	api.QFoldE: 1,
	api.QScanE: 1,
}

func hasForm(r api.Rule) bool {
	return r.Op >= api.QNum && r.Op <= api.QScanE && len(r.A) == partCounts[r.Op]
}

// own answers a rule without the steps of a rule that has none: they are a field
// that is not looked at.
func own(r api.Rule) api.Rule {
	if r.Op < api.QEach {
		r.E = nil
	}
	return r
}

// codeOfUses is asked when all rules have been looked at.
func (l *look) codeOfUses(r api.Rule) int {
	for _, variable := range Uses(own(r)) {
		if code := l.codeOfUnmade(variable); code != 0 {
			return code
		}
	}
	return 0
}

func (l *look) codeOfUnmade(variable int) int {
	if !l.made[variable] {
		return api.ErrNone
	}
	return 0
}
