package inst

import (
	"loomwork/api"
	"loomwork/kinds"
)

// part answers the variable that an expression is called by.
func (f *frame) part(e api.Expr) int {
	if e.Op == api.XName {
		return f.variableOf(e.Name)
	}
	r, v := f.made(e)
	r.Out = f.variable(v)
	f.rule(r)
	return r.Out
}

// made answers the rule that makes an expression, its Out left open, and what it
// makes.
func (f *frame) made(e api.Expr) (api.Rule, api.Var) {
	a := each(e.L, f.part)
	if e.Op == api.XName { // a whole equation: as a part it needs no rule
		a = []int{f.variableOf(e.Name)}
	}
	types := each(a, f.typeOf)
	sizes := f.sizesOf(e, types)
	return ruleOf(e, a, sizes), typeOfMade(e, types, sizes)
}

// sizesOf answers the numbers that an expression's sizes are, its parts being of
// those types; of a cat, which has none, how many cells it has.
func (f *frame) sizesOf(e api.Expr, types []api.Var) []int {
	switch e.Op {
	case api.XFill:
		return []int{f.reckon(e.S[0], 1, api.MaxArray)}
	case api.XSlice:
		from := f.reckon(e.S[0], 0, types[0].N)
		return []int{from, f.reckon(e.S[1], 1, types[0].N-from)}
	case api.XCat:
		both := types[0].N + types[1].N
		if both > api.MaxArray {
			giveUp(api.ErrSize, f.place)
		}
		return []int{both}
	}
	return nil
}

func ruleOf(e api.Expr, a, sizes []int) api.Rule {
	r := api.Rule{Op: ruleKinds[e.Op], K: e.K, A: a}
	switch e.Op {
	case api.XNum, api.XTruth:
		r.N = e.N
	case api.XMap:
		r.Op = mapKinds[len(a)]
	case api.XSlice:
		r.N = int64(sizes[0])
	}
	return r
}

// ruleKinds: what kinds of expressions become. (What a map becomes hangs on how
// many parts it has.)
var ruleKinds = [...]int{
	api.XNum:   api.QNum,
	api.XTruth: api.QNum,
	api.XName:  api.QCopy,
	api.XUn:    api.QUn,
	api.XBin:   api.QBin,
	api.XIf:    api.QIf,
	api.XFold:  api.QFold,
	api.XScan:  api.QScan,
	api.XFill:  api.QFill,
	api.XIndex: api.QIndex,
	api.XWith:  api.QWith,
	api.XSlice: api.QSlice,
	api.XCat:   api.QCat,
	api.XPre:   api.QPre,
}

var mapKinds = [...]int{1: api.QUn, 2: api.QBin}

// typeOfMade answers what an expression makes of parts of those types, and with
// those sizes.
func typeOfMade(e api.Expr, types []api.Var, sizes []int) api.Var {
	switch e.Op {
	case api.XNum:
		return api.Var{Elem: 'i'}
	case api.XTruth:
		return api.Var{Elem: 'b'}
	case api.XUn, api.XBin, api.XMap:
		_, makes, _ := kinds.Op(e.K)
		return api.Var{Elem: makes, N: types[0].N}
	case api.XFill, api.XSlice, api.XCat:
		return api.Var{Elem: types[0].Elem, N: sizes[len(sizes)-1]}
	case api.XIf, api.XScan:
		return types[1]
	case api.XIndex:
		return types[2]
	}
	return types[0] // XName, XFold, XWith, XPre
}
