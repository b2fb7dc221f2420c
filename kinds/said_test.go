package kinds

import (
	"slices"

	"loomwork/api"
	"loomwork/render"
)

// saidNorm is the sum of each name, names being in no order; false: the size has
// no normal form.
func saidNorm(s api.Size) (map[string]int64, bool) {
	sums := map[string]int64{}
	for _, t := range s {
		if t.N > 1000000 || t.N < -1000000 {
			return nil, false
		}
		sums[t.Name] += t.N
	}
	return sums, len(s) <= 1000
}

func saidSameSize(a, b api.Size) bool {
	one, isA := saidNorm(a)
	other, isB := saidNorm(b)
	for name := range one {
		if one[name] != other[name] {
			return false
		}
	}
	for name := range other {
		if one[name] != other[name] {
			return false
		}
	}
	return isA && isB
}

// saidType is a type that says by itself whether it is an array.
type saidType struct {
	elem    byte
	isArray bool
	n       api.Size
}

func saidOf(t api.Type) saidType { return saidType{t.Elem, len(t.N) > 0, t.N} }

func (t saidType) is(other saidType) bool {
	return t.elem == other.elem && t.isArray == other.isArray && (!t.isArray || saidSameSize(t.n, other.n))
}

func (t saidType) isScalar(elem byte) bool { return t.is(saidType{elem: elem}) }

func (t saidType) isArrayOf(elem byte) bool { return t.isArray && t.elem == elem }

// trouble is a fault on its way to the one who asked.
type trouble int

func stopIf(is bool, code int) {
	if is {
		panic(trouble(code))
	}
}

// saidNode is a node that is looked at.
type saidNode struct {
	api.Node
	above []api.Node
	made  []string
}

func (n *saidNode) decls() []api.Decl { return slices.Concat(n.In, n.Out, n.Local) }

func (n *saidNode) size(s api.Size) {
	for _, t := range s {
		stopIf(t.Name != "" && !slices.Contains(n.Sizes, t.Name), api.ErrNone)
	}
	_, is := saidNorm(s)
	stopIf(!is, api.ErrRange)
}

func (n *saidNode) head() {
	for _, other := range n.above {
		stopIf(other.Name == n.Name, api.ErrTwice)
	}
	for i, name := range n.Sizes {
		stopIf(slices.Contains(n.Sizes[:i], name), api.ErrTwice)
	}
	var ahead []string
	for _, d := range n.decls() {
		stopIf(slices.Contains(ahead, d.Name) || slices.Contains(n.Sizes, d.Name), api.ErrTwice)
		ahead = append(ahead, d.Name)
		n.size(d.T.N)
	}
}

func (n *saidNode) typeOfName(name string) saidType {
	for _, d := range n.decls() {
		if d.Name == name {
			return saidOf(d.T)
		}
	}
	panic(trouble(api.ErrNone))
}

func (n *saidNode) equation(q api.Eq) {
	for _, name := range q.Names {
		isDecl := func(d api.Decl) bool { return d.Name == name }
		stopIf(!slices.ContainsFunc(n.Out, isDecl) && !slices.ContainsFunc(n.Local, isDecl), api.ErrNone)
		stopIf(slices.Contains(n.made, name), api.ErrTwice)
		n.made = append(n.made, name)
	}
	if q.Node != "" {
		n.call(q)
		return
	}
	stopIf(!n.expr(q.E[0]).is(n.typeOfName(q.Names[0])), api.ErrType)
}

func (n *saidNode) call(q api.Eq) {
	at := slices.IndexFunc(n.above, func(other api.Node) bool { return other.Name == q.Node })
	stopIf(at < 0, api.ErrNode)
	called := n.above[at]
	for _, s := range q.S {
		n.size(s)
	}
	var given []saidType
	for _, e := range q.E {
		given = append(given, n.expr(e))
	}
	stopIf(len(q.S) != len(called.Sizes) || len(q.E) != len(called.In) || len(q.Names) != len(called.Out), api.ErrCount)
	for i, d := range called.In {
		stopIf(!given[i].is(saidPut(d, called.Sizes, q.S)), api.ErrType)
	}
	for _, d := range called.Out {
		saidPut(d, called.Sizes, q.S)
	}
	for i, d := range called.Out {
		stopIf(!n.typeOfName(q.Names[i]).is(saidPut(d, called.Sizes, q.S)), api.ErrType)
	}
}

func saidPut(d api.Decl, names []string, l []api.Size) saidType {
	t := saidOf(d.T)
	t.n = nil
	for _, term := range d.T.N {
		at := slices.Index(names, term.Name)
		if at < 0 {
			t.n = append(t.n, term)
			continue
		}
		for _, u := range l[at] {
			t.n = append(t.n, api.Term{N: term.N * u.N, Name: u.Name})
		}
	}
	_, is := saidNorm(t.n)
	stopIf(!is, api.ErrRange)
	return t
}

func (n *saidNode) expr(e api.Expr) saidType {
	for _, s := range e.S {
		n.size(s)
	}
	var l []saidType
	for _, part := range e.L {
		l = append(l, n.expr(part))
	}
	switch e.Op {
	case api.XNum:
		return saidType{elem: 'i'}
	case api.XTruth:
		return saidType{elem: 'b'}
	case api.XName:
		return n.typeOfName(e.Name)
	}
	return saidWhole(e, l)
}

// saidOperator is what the chapter's table says of an operator.
func saidOperator(k int) (takes, makes byte, n int) {
	switch {
	case k <= api.KMax:
		return 'i', 'i', 2
	case k <= api.KEq:
		return 'i', 'b', 2
	case k <= api.KXor:
		return 'b', 'b', 2
	case k == api.KNeg:
		return 'i', 'i', 1
	}
	return 'b', 'b', 1
}

func saidWhole(e api.Expr, l []saidType) saidType {
	takes, makes, n := saidOperator(e.K)
	switch e.Op {
	case api.XUn, api.XBin:
		for _, t := range l {
			stopIf(!t.isScalar(takes), api.ErrType)
		}
		return saidType{elem: makes}
	case api.XMap:
		stopIf(len(l) != n, api.ErrCount)
		for i, t := range l {
			stopIf(!t.isArrayOf(takes) || i == 1 && !saidSameSize(t.n, l[0].n), api.ErrType)
		}
		return saidType{makes, true, l[0].n}
	case api.XFold, api.XScan:
		stopIf(n != 2 || takes != makes || !l[0].isScalar(takes) || !l[1].isArrayOf(takes), api.ErrType)
		return l[e.Op-api.XFold]
	case api.XIf:
		stopIf(!l[0].isScalar('b') || !l[1].is(l[2]), api.ErrType)
		return l[2]
	case api.XFill:
		stopIf(l[0].isArray, api.ErrType)
		return saidType{l[0].elem, true, e.S[0]}
	case api.XIndex, api.XWith:
		stopIf(!l[0].isArray || !l[1].isScalar('i') || !l[2].isScalar(l[0].elem), api.ErrType)
		if e.Op == api.XWith {
			return l[0]
		}
		return saidType{elem: l[0].elem}
	case api.XSlice:
		stopIf(!l[0].isArray, api.ErrType)
		return saidType{l[0].elem, true, e.S[1]}
	case api.XCat:
		stopIf(!l[0].isArray || !l[1].isArrayOf(l[0].elem), api.ErrType)
		sum := slices.Concat(l[0].n, l[1].n)
		_, is := saidNorm(sum)
		stopIf(!is, api.ErrRange)
		return saidType{l[0].elem, true, sum}
	}
	stopIf(!l[0].is(l[1]), api.ErrType)
	return l[1]
}

// caught answers the code by which a function gave up, or 0.
func caught(do func()) (code int) {
	defer func() {
		switch x := recover().(type) {
		case nil:
		case trouble:
			code = int(x)
		default:
			panic(x)
		}
	}()
	do()
	return 0
}

// saidCheck is what the chapter's words say of a program, one by one.
func saidCheck(p api.Program) api.Fault {
	if fault := render.Check(p); fault.Code != 0 {
		return fault
	}
	number := 0
	for i, node := range p.Nodes {
		n := &saidNode{Node: node, above: p.Nodes[:i]}
		if code := caught(n.head); code != 0 {
			return api.Fault{Code: code, At: -2 - i}
		}
		for _, q := range n.Eqs {
			if code := caught(func() { n.equation(q) }); code != 0 {
				return api.Fault{Code: code, At: number}
			}
			number++
		}
		for _, d := range slices.Concat(n.Out, n.Local) {
			if !slices.Contains(n.made, d.Name) {
				return api.Fault{Code: api.ErrNone, At: -2 - i}
			}
		}
	}
	for _, n := range p.Nodes {
		if n.Name == "main" && len(n.Sizes) == 0 {
			return api.Fault{}
		}
	}
	return api.Fault{Code: api.ErrMain, At: -1}
}
