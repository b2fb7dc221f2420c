package render

import (
	"loomwork/api"
	"loomwork/token"
)

// Places of faults that are not an equation's.
const (
	placeOfProgram   = -1
	placeOfFirstNode = -2 // the others lie below it, one by one
)

// checkNodes tells every fault of a program but that its text is too long.
func checkNodes(nodes []api.Node) api.Fault {
	switch {
	case len(nodes) == 0:
		return api.Fault{Code: api.ErrNone, At: placeOfProgram}
	case len(nodes) > api.MaxNodes:
		return api.Fault{Code: api.ErrMany, At: placeOfProgram}
	}
	number := 0 // of the next equation, through the whole program
	for i, n := range nodes {
		if code := codeOfHead(n); code != 0 {
			return api.Fault{Code: code, At: placeOfFirstNode - i}
		}
		for _, q := range n.Eqs {
			if code := codeOfEquation(q); code != 0 {
				return api.Fault{Code: code, At: number}
			}
			number++
		}
	}
	return api.Fault{}
}

// firstCode answers the first fault's code that the function tells of the
// things in a list; 0 if it tells none.
func firstCode[T any](list []T, codeOf func(T) int) int {
	for _, thing := range list {
		if code := codeOf(thing); code != 0 {
			return code
		}
	}
	return 0
}

// codeOfHead tells what is wrong with a node, its equations left aside.
func codeOfHead(n api.Node) int {
	if !token.Name(n.Name) {
		return api.ErrName
	}
	if len(n.Sizes) > api.MaxSizes || len(n.Eqs) > api.MaxEqs {
		return api.ErrMany
	}
	if code := firstCode(n.Sizes, codeOfName); code != 0 {
		return code
	}
	if len(n.Out) == 0 {
		return api.ErrForm
	}
	lists := [...][]api.Decl{n.In, n.Out, n.Local}
	for _, decls := range lists {
		if code := codeOfDecls(decls); code != 0 {
			return code
		}
	}
	return 0
}

func codeOfName(name string) int {
	if !token.Name(name) {
		return api.ErrName
	}
	return 0
}

func codeOfDecls(decls []api.Decl) int {
	if len(decls) > api.MaxDecls {
		return api.ErrMany
	}
	return firstCode(decls, codeOfDecl)
}

func codeOfDecl(d api.Decl) int {
	switch {
	case !token.Name(d.Name):
		return api.ErrName
	case d.T.Elem != 'i' && d.T.Elem != 'b':
		return api.ErrType
	case len(d.T.N) == 0: // a scalar
		return 0
	}
	return codeOfSize(d.T.N)
}

func codeOfSize(size api.Size) int {
	switch {
	case len(size) == 0:
		return api.ErrForm
	case len(size) > api.MaxTerms:
		return api.ErrMany
	}
	return firstCode(size, codeOfTerm)
}

func codeOfTerm(t api.Term) int {
	switch {
	case t.N <= -api.MaxNum || t.N >= api.MaxNum:
		return api.ErrNumber
	case t.Name == "":
		return 0
	}
	return codeOfName(t.Name)
}

func codeOfEquation(q api.Eq) int {
	isCall := q.Node != ""
	isPlain := len(q.Names) == 1 && len(q.E) == 1 && len(q.S) == 0
	switch {
	case len(q.Names) == 0 || !isCall && !isPlain:
		return api.ErrForm
	case len(q.Names) > api.MaxDecls || len(q.E) > api.MaxDecls || len(q.S) > api.MaxSizes:
		return api.ErrMany
	case firstCode(q.Names, codeOfName) != 0 || isCall && !token.Name(q.Node):
		return api.ErrName
	}
	if code := firstCode(q.S, codeOfSize); code != 0 {
		return code
	}
	return firstCode(q.E, codeOfExpr)
}

func codeOfExpr(e api.Expr) int {
	if partsLeft(e, api.MaxTerms) < 0 {
		return api.ErrMany
	}
	return codeOfPart(e)
}

// partsLeft answers how many parts more there may be behind an expression. It
// goes no further once that is below 0: lists that share memory can have parts
// without end.
func partsLeft(e api.Expr, left int) int {
	left--
	for i := 0; i < len(e.L) && left >= 0; i++ {
		left = partsLeft(e.L[i], left)
	}
	return left
}

func codeOfPart(e api.Expr) int {
	switch {
	case !isFormed(e):
		return api.ErrForm
	case e.Op == api.XName && !token.Name(e.Name):
		return api.ErrName
	case e.N < 0 || e.N >= api.MaxNum:
		return api.ErrNumber
	}
	if code := firstCode(e.S, codeOfSize); code != 0 {
		return code
	}
	return firstCode(e.L, codeOfPart)
}

// isFormed tells whether an expression has what one of its kind must have, and
// nothing that only those of other kinds have.
func isFormed(e api.Expr) bool {
	if e.Op < api.XNum || e.Op > api.XPre {
		return false
	}
	s := shapes[e.Op]
	return s.least <= len(e.L) && len(e.L) <= s.most &&
		len(e.S) == s.sizes &&
		s.first <= e.K && e.K <= s.last &&
		mayHaveNumber(e) &&
		(e.Op == api.XName || e.Name == "")
}

func mayHaveNumber(e api.Expr) bool {
	switch e.Op {
	case api.XNum:
		return true
	case api.XTruth:
		return e.N == 0 || e.N == 1
	}
	return e.N == 0
}
