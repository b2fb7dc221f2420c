package inst

import (
	"slices"

	"loomwork/api"
	"loomwork/kinds"
)

// saidMaker unrolls a program by the chapter's words, one by one, till there is
// a fault.
type saidMaker struct {
	nodes []api.Node
	made  api.System
	fault api.Fault
}

// saidMake is what the chapter's words say of a program.
func saidMake(p api.Program) (api.System, api.Fault) {
	if fault := kinds.Check(p); fault.Code != 0 {
		return api.System{}, fault
	}
	m := &saidMaker{nodes: p.Nodes}
	at := slices.IndexFunc(p.Nodes, func(n api.Node) bool { return n.Name == "main" })
	n := &saidNode{m, at, nil, nil}
	for _, d := range p.Nodes[at].In {
		m.made.In = append(m.made.In, m.newVar(n.kindOfDecl(d)))
	}
	for _, d := range p.Nodes[at].Out {
		m.made.Out = append(m.made.Out, m.newVar(n.kindOfDecl(d)))
	}
	n.unroll(m.made.In, m.made.Out)
	if m.fault.Code != 0 {
		return api.System{}, m.fault
	}
	return m.made, api.Fault{}
}

func (m *saidMaker) stopIf(is bool, code, at int) {
	if is && m.fault.Code == 0 {
		m.fault = api.Fault{Code: code, At: at}
	}
}

func (m *saidMaker) newVar(v api.Var) int {
	m.made.Vars = append(m.made.Vars, v)
	m.stopIf(len(m.made.Vars) > 400, api.ErrMany, -1)
	return len(m.made.Vars) - 1
}

func (m *saidMaker) newRule(r api.Rule) {
	m.made.Rules = append(m.made.Rules, r)
	m.stopIf(len(m.made.Rules) > 400, api.ErrMany, -1)
}

// saidNode is the node of that number, with numbers for its sizes, and a variable
// for each of its inputs, outputs and locals, in that order.
type saidNode struct {
	*saidMaker
	number  int
	numbers []int
	vars    []int
}

func (n *saidNode) node() api.Node { return n.nodes[n.number] }

func (n *saidNode) decls() []api.Decl {
	return slices.Concat(n.node().In, n.node().Out, n.node().Local)
}

// value of a size: a name that is none of the node's is not asked for.
func (n *saidNode) value(s api.Size) int {
	sum := 0
	for _, t := range s {
		factor := 1
		if t.Name != "" {
			factor = n.numbers[slices.Index(n.node().Sizes, t.Name)]
		}
		sum += int(t.N) * factor
	}
	return sum
}

func (n *saidNode) reckoned(s api.Size, at, least, most int) int {
	v := n.value(s)
	n.stopIf(v < least || v > most, api.ErrSize, at)
	return v
}

func (n *saidNode) kindOfDecl(d api.Decl) api.Var {
	if len(d.T.N) == 0 {
		return api.Var{Elem: d.T.Elem}
	}
	return api.Var{Elem: d.T.Elem, N: n.value(d.T.N)}
}

func (n *saidNode) variable(name string) int {
	return n.vars[slices.IndexFunc(n.decls(), func(d api.Decl) bool { return d.Name == name })]
}

func (n *saidNode) unroll(in, out []int) {
	for _, d := range n.decls() {
		if len(d.T.N) > 0 {
			n.reckoned(d.T.N, -2-n.number, 1, 300)
		}
	}
	n.vars = slices.Concat(in, out)
	for _, d := range n.node().Local {
		n.vars = append(n.vars, n.newVar(n.kindOfDecl(d)))
	}
	at := 0
	for _, other := range n.nodes[:n.number] {
		at += len(other.Eqs)
	}
	for i, q := range n.node().Eqs {
		if n.fault.Code != 0 {
			return
		}
		if q.Node == "" {
			n.make(q.E[0], n.variable(q.Names[0]), at+i)
		} else {
			n.call(q, at+i)
		}
	}
}

func (n *saidNode) call(q api.Eq, at int) {
	called := slices.IndexFunc(n.nodes, func(other api.Node) bool { return other.Name == q.Node })
	var numbers, in, out []int
	for _, s := range q.S {
		numbers = append(numbers, n.reckoned(s, at, 0, 300))
	}
	for _, e := range q.E {
		in = append(in, n.calledBy(e, at))
	}
	for _, name := range q.Names {
		out = append(out, n.variable(name))
	}
	if n.fault.Code == 0 {
		(&saidNode{n.saidMaker, called, numbers, nil}).unroll(in, out)
	}
}

func (n *saidNode) calledBy(e api.Expr, at int) int {
	if e.Op == api.XName {
		return n.variable(e.Name)
	}
	return n.make(e, -1, at)
}

// make makes an expression the variable out, or, that being -1, a new one.
func (n *saidNode) make(e api.Expr, out, at int) int {
	r := api.Rule{K: e.K}
	for _, part := range e.L {
		r.A = append(r.A, n.calledBy(part, at))
	}
	switch e.Op {
	case api.XNum, api.XTruth:
		r.Op, r.N = api.QNum, e.N
	case api.XName:
		r.Op, r.A = api.QCopy, []int{n.variable(e.Name)}
	case api.XUn:
		r.Op = api.QUn
	case api.XBin:
		r.Op = api.QBin
	case api.XIf:
		r.Op = api.QIf
	case api.XMap:
		r.Op = api.QBin
		if len(e.L) == 1 {
			r.Op = api.QUn
		}
	case api.XFold:
		r.Op = api.QFold
	case api.XScan:
		r.Op = api.QScan
	case api.XFill:
		r.Op = api.QFill
		n.reckoned(e.S[0], at, 1, 300)
	case api.XIndex:
		r.Op = api.QIndex
	case api.XWith:
		r.Op = api.QWith
	case api.XSlice:
		r.Op = api.QSlice
		cells := n.kindOf(e.L[0]).N
		r.N = int64(n.reckoned(e.S[0], at, 0, cells))
		n.reckoned(e.S[1], at, 1, cells-int(r.N))
	case api.XCat:
		r.Op = api.QCat
		n.stopIf(n.kindOf(e).N > 300, api.ErrSize, at)
	case api.XPre:
		r.Op = api.QPre
	}
	r.Out = out
	if out < 0 {
		r.Out = n.newVar(n.kindOf(e))
	}
	n.newRule(r)
	return r.Out
}

// kindOf answers what an expression is by its text, and by no variable.
func (n *saidNode) kindOf(e api.Expr) api.Var {
	switch e.Op {
	case api.XNum:
		return api.Var{Elem: 'i'}
	case api.XTruth:
		return api.Var{Elem: 'b'}
	case api.XName:
		return n.kindOfDecl(n.decls()[slices.IndexFunc(n.decls(), func(d api.Decl) bool { return d.Name == e.Name })])
	case api.XUn, api.XBin, api.XMap:
		v := n.kindOf(e.L[0])
		if e.K == api.KLess || e.K == api.KEq {
			v.Elem = 'b'
		}
		return v
	case api.XIf:
		return n.kindOf(e.L[2])
	case api.XFill:
		return api.Var{Elem: n.kindOf(e.L[0]).Elem, N: n.value(e.S[0])}
	case api.XSlice:
		return api.Var{Elem: n.kindOf(e.L[0]).Elem, N: n.value(e.S[1])}
	case api.XIndex:
		return api.Var{Elem: n.kindOf(e.L[0]).Elem}
	case api.XCat:
		v := n.kindOf(e.L[0])
		v.N += n.kindOf(e.L[1]).N
		return v
	case api.XPre, api.XScan:
		return n.kindOf(e.L[1])
	}
	return n.kindOf(e.L[0]) // XFold, XWith
}
