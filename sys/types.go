package sys

import (
	"slices"

	"loomwork/api"
	"loomwork/kinds"
)

func isArray(v api.Var) bool { return v.N > 0 }

func scalar(elem byte) api.Var { return api.Var{Elem: elem} }

// cellOf answers the scalar that an array's cells are.
func cellOf(v api.Var) api.Var { return scalar(v.Elem) }

func isArrayOf(v, cell api.Var) bool { return isArray(v) && cellOf(v) == cell }

func isTruth(n int64) bool { return n == 0 || n == 1 }

// typedRule is a rule with the types of what it makes, and of what it makes it of.
type typedRule struct {
	api.Rule
	out api.Var
	a   []api.Var
}

// fits tells whether the types of a rule fit that has its form, and whose
// variables there are.
func (l *look) fits(r api.Rule) bool {
	t := typedRule{Rule: r, out: l.Vars[r.Out]}
	for _, variable := range r.A {
		t.a = append(t.a, l.Vars[variable])
	}
	if r.Op < api.QEach {
		return t.fits()
	}
	return t.fitsTree(func(cells int) byte { return l.madeByTree(r.E, cells) })
}

func (t typedRule) fits() bool {
	switch t.Op {
	case api.QNum:
		return t.out == scalar('i') || t.out == scalar('b') && isTruth(t.N)
	case api.QCopy:
		return t.out == t.a[0]
	case api.QUn, api.QBin:
		return t.operates()
	case api.QIf:
		return t.a[0] == scalar('b') && t.a[1] == t.a[2] && t.out == t.a[1]
	case api.QFold:
		return t.goesOver(t.a[1]) && t.out == t.a[0]
	case api.QScan:
		return t.goesOver(t.a[1]) && t.out == t.a[1]
	case api.QFill:
		return isArrayOf(t.out, t.a[0])
	case api.QIndex:
		return t.hasPlace() && t.out == t.a[2]
	case api.QWith:
		return t.hasPlace() && t.out == t.a[0]
	case api.QSlice:
		return isArray(t.a[0]) && isArrayOf(t.out, cellOf(t.a[0])) && t.N >= 0 && t.N <= int64(t.a[0].N-t.out.N)
	case api.QCat:
		return isArray(t.a[0]) && isArrayOf(t.a[1], cellOf(t.a[0])) && t.out == api.Var{Elem: t.a[0].Elem, N: t.a[0].N + t.a[1].N}
	}
	return t.a[0] == t.a[1] && t.out == t.a[0] // QPre
}

// fitsTree is asked of rules with a tree; the function tells what that makes in
// each of so many cells.
func (t typedRule) fitsTree(makes func(cells int) byte) bool {
	switch t.Op {
	case api.QEach:
		return makes(max(1, t.out.N)) == t.out.Elem
	case api.QFoldE:
		return t.goesFrom(t.a[0]) && t.out == t.a[0] && t.N >= 1 && t.N <= api.MaxArray && makes(int(t.N)) == t.out.Elem
	}
	return t.goesFrom(t.a[0]) && isArrayOf(t.out, t.a[0]) && makes(t.out.N) == t.out.Elem // QScanE
}

func (t typedRule) operates() bool {
	takes, makes, n := kinds.Op(t.K)
	if n != len(t.a) {
		return false
	}
	isOther := func(v api.Var) bool { return v != api.Var{Elem: takes, N: t.a[0].N} }
	return !slices.ContainsFunc(t.a, isOther) && t.out == api.Var{Elem: makes, N: t.a[0].N}
}

// goesFrom tells whether the operator folds, and may begin with what is of that
// type.
func (t typedRule) goesFrom(first api.Var) bool {
	takes, _, _ := kinds.Op(t.K)
	return kinds.Folds(t.K) && first == scalar(takes)
}

func (t typedRule) goesOver(array api.Var) bool {
	return t.goesFrom(t.a[0]) && isArrayOf(array, t.a[0])
}

// hasPlace tells whether it is made of an array, a place in it, and what may be
// one of its cells.
func (t typedRule) hasPlace() bool {
	return isArrayOf(t.a[0], t.a[2]) && t.a[1] == scalar('i')
}
