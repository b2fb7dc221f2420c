package syntax

import (
	"slices"

	"loomwork/api"
)

// Same tells whether two programs are the same in all but their places.
func Same(a, b api.Program) bool { return slices.EqualFunc(a.Nodes, b.Nodes, sameNode) }

func sameNode(a, b api.Node) bool {
	return a.Name == b.Name &&
		slices.Equal(a.Sizes, b.Sizes) &&
		slices.EqualFunc(a.In, b.In, sameDecl) &&
		slices.EqualFunc(a.Out, b.Out, sameDecl) &&
		slices.EqualFunc(a.Local, b.Local, sameDecl) &&
		slices.EqualFunc(a.Eqs, b.Eqs, sameEq)
}

func sameDecl(a, b api.Decl) bool {
	return a.Name == b.Name && a.T.Elem == b.T.Elem && sameSize(a.T.N, b.T.N)
}

func sameSize(a, b api.Size) bool { return slices.Equal(a, b) }

func sameEq(a, b api.Eq) bool {
	return slices.Equal(a.Names, b.Names) &&
		a.Node == b.Node &&
		slices.EqualFunc(a.S, b.S, sameSize) &&
		slices.EqualFunc(a.E, b.E, sameExpr)
}

func sameExpr(a, b api.Expr) bool {
	return a.Op == b.Op && a.K == b.K && a.N == b.N && a.Name == b.Name &&
		slices.EqualFunc(a.S, b.S, sameSize) &&
		slices.EqualFunc(a.L, b.L, sameExpr)
}
