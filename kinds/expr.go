package kinds

import (
	"slices"

	"loomwork/api"
)

func isArray(t api.Type) bool { return len(t.N) > 0 }

func isArrayOf(t api.Type, elem byte) bool { return isArray(t) && t.Elem == elem }

func isScalarOf(t api.Type, elem byte) bool { return !isArray(t) && t.Elem == elem }

func scalar(elem byte) api.Type { return api.Type{Elem: elem} }

// arrayOf makes a size without terms a 0: without a size it were a scalar.
func arrayOf(elem byte, n api.Size) api.Type {
	if len(n) == 0 {
		n = api.Size{{}}
	}
	return api.Type{Elem: elem, N: n}
}

// typed is a type, or ErrType where what it hangs on is not so.
func typed(isSo bool, t api.Type) (api.Type, int) {
	if !isSo {
		return api.Type{}, api.ErrType
	}
	return t, 0
}

// typeOf answers the type of an expression, or a fault's code. That of a part is
// told ahead of that of the whole.
func (s *scope) typeOf(e api.Expr) (api.Type, int) {
	if code := firstCode(e.S, s.codeOfSize); code != 0 {
		return api.Type{}, code
	}
	l, code := typesOf(e.L, s.typeOf)
	if code != 0 {
		return api.Type{}, code
	}
	switch e.Op {
	case api.XNum:
		return scalar('i'), 0
	case api.XTruth:
		return scalar('b'), 0
	case api.XName:
		return s.typeOfName(e.Name)
	}
	return typeOfWhole(e, l)
}

func (s *scope) typeOfName(name string) (api.Type, int) {
	t, declared := s.types[name]
	if !declared {
		return api.Type{}, api.ErrNone
	}
	return t, 0
}

// typeOfWhole answers the type of an expression whose parts have the types l.
func typeOfWhole(e api.Expr, l []api.Type) (api.Type, int) {
	switch e.Op {
	case api.XMap:
		return typeOfMap(e.K, l)
	case api.XFold:
		return typed(isFold(e.K, l), l[0])
	case api.XScan:
		return typed(isFold(e.K, l), l[1])
	case api.XIf:
		return typed(isScalarOf(l[0], 'b') && Same(l[1], l[2]), l[1])
	case api.XFill:
		return typed(!isArray(l[0]), arrayOf(l[0].Elem, e.S[0]))
	case api.XIndex:
		return typed(isPlace(l), scalar(l[0].Elem))
	case api.XWith:
		return typed(isPlace(l), l[0])
	case api.XSlice:
		return typed(isArray(l[0]), arrayOf(l[0].Elem, e.S[1]))
	case api.XCat:
		return typeOfCat(l[0], l[1])
	case api.XPre:
		return typed(Same(l[0], l[1]), l[0])
	}
	return typeOfOperation(e.K, l) // XUn, XBin
}

func typeOfOperation(k int, l []api.Type) (api.Type, int) {
	takes, makes, _ := Op(k)
	isOther := func(t api.Type) bool { return !isScalarOf(t, takes) }
	return typed(!slices.ContainsFunc(l, isOther), scalar(makes))
}

func typeOfMap(k int, l []api.Type) (api.Type, int) {
	takes, makes, n := Op(k)
	if len(l) != n {
		return api.Type{}, api.ErrCount
	}
	for i, t := range l {
		if !isArrayOf(t, takes) || i > 0 && !Same(t, l[0]) {
			return api.Type{}, api.ErrType
		}
	}
	return arrayOf(makes, l[0].N), 0
}

// isFold tells whether an operator may go from the first part on over the cells
// of the second.
func isFold(k int, l []api.Type) bool {
	takes, _, _ := Op(k)
	return Folds(k) && isScalarOf(l[0], takes) && isArrayOf(l[1], takes)
}

// isPlace tells whether the parts are an array, a place in it, and what may be
// one of its cells.
func isPlace(l []api.Type) bool {
	return isArray(l[0]) && isScalarOf(l[1], 'i') && isScalarOf(l[2], l[0].Elem)
}

// typeOfCat keeps the sum's terms as they are: what they come to in a normal form
// may be an N that has no normal form of its own.
func typeOfCat(a, b api.Type) (api.Type, int) {
	if !isArray(a) || !isArrayOf(b, a.Elem) {
		return api.Type{}, api.ErrType
	}
	n := slices.Concat(a.N, b.N)
	if code := codeOfRange(n); code != 0 {
		return api.Type{}, code
	}
	return arrayOf(a.Elem, n), 0
}
