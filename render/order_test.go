package render

import (
	"testing"

	"loomwork/api"
)

// sample is a program of three nodes: the second has something in each of its
// lists, and its equations have the numbers 1 (a call) and 2.
func sample() api.Program {
	decls := func() []api.Decl {
		return []api.Decl{decl("c"), {Name: "d", T: api.Type{Elem: 'b', N: size("n", "m")}}}
	}
	call := api.Eq{Names: []string{"c", "d"}, Node: "f", S: []api.Size{size("n"), size("m", "n")}, E: []api.Expr{
		op(api.XBin, api.KSub, name("c"), num(3)),
		op(api.XCat, 0, fill(truth(1), size("n")), op(api.XMap, api.KNot, name("d"))),
	}}
	full := api.Node{Name: "g", Sizes: []string{"n", "m"}, In: decls(), Out: decls(), Local: decls(), Eqs: []api.Eq{call, plain(name("c"))}}
	return program(node(plain(num(0))), full, node(plain(num(0))))
}

// spoiling breaks a program in one way; code and at are what is then told.
type spoiling struct {
	what     string
	code, at int
	spoil    func(p *api.Program)
}

// ofNode is a spoiling of the second node.
func ofNode(what string, code int, spoil func(n *api.Node)) spoiling {
	return spoiling{what, code, -3, func(p *api.Program) { spoil(&p.Nodes[1]) }}
}

// ofCall is a spoiling of the equation 1.
func ofCall(what string, code int, spoil func(q *api.Eq)) spoiling {
	return spoiling{what, code, 1, func(p *api.Program) { spoil(&p.Nodes[1].Eqs[0]) }}
}

// ofDecls are the spoilings of a list of declarations.
func ofDecls(list int) []spoiling {
	at := func(i int) func(n *api.Node) *api.Decl {
		return func(n *api.Node) *api.Decl { return &(*lists(n)[list])[i] }
	}
	all := []spoiling{ofNode("declarations", api.ErrMany, func(n *api.Node) {
		l := lists(n)[list]
		*l = append(*l, times(api.MaxDecls, decl("e"))...)
	})}
	for i := range 2 {
		d := at(i)
		all = append(all,
			ofNode("declared name", api.ErrName, func(n *api.Node) { d(n).Name = "C" }),
			ofNode("declared type", api.ErrType, func(n *api.Node) { d(n).T.Elem = 'c' }),
			ofNode("declared terms", api.ErrMany, func(n *api.Node) { d(n).T.N = times(api.MaxTerms+1, api.Term{N: api.MaxNum}) }),
			ofNode("declared first number", api.ErrNumber, func(n *api.Node) { d(n).T.N = api.Size{{N: api.MaxNum, Name: "N"}, {Name: "N"}} }),
			ofNode("declared first term's name", api.ErrName, func(n *api.Node) { d(n).T.N = api.Size{{Name: "N"}, {N: api.MaxNum}} }),
			ofNode("declared second number", api.ErrNumber, func(n *api.Node) { d(n).T.N = api.Size{{}, {N: -api.MaxNum, Name: "N"}} }),
			ofNode("declared second term's name", api.ErrName, func(n *api.Node) { d(n).T.N = api.Size{{}, {Name: "N"}} }),
		)
	}
	return all
}

// spoilings are in the order in which their faults are told.
func spoilings() []spoiling {
	all := []spoiling{
		{"no nodes", api.ErrNone, -1, func(p *api.Program) { p.Nodes = nil }},
		{"nodes", api.ErrMany, -1, func(p *api.Program) { p.Nodes = append(p.Nodes, times(api.MaxNodes, node())...) }},
		{"first node's name", api.ErrName, -2, func(p *api.Program) { p.Nodes[0].Name = "A" }},
		{"first node's outputs", api.ErrForm, -2, func(p *api.Program) { p.Nodes[0].Out = nil }},
		{"first node's locals", api.ErrMany, -2, func(p *api.Program) { p.Nodes[0].Local = times(api.MaxDecls+1, decl("c")) }},
		{"first equation", api.ErrNumber, 0, func(p *api.Program) { p.Nodes[0].Eqs = []api.Eq{plain(num(-1))} }},
		ofNode("name", api.ErrName, func(n *api.Node) { n.Name = "G" }),
		ofNode("equations", api.ErrMany, func(n *api.Node) { n.Eqs = append(n.Eqs, times(api.MaxEqs, plain(num(0)))...) }),
		ofNode("sizes", api.ErrMany, func(n *api.Node) { n.Sizes = append(n.Sizes, "k", "L") }),
		ofNode("size's name", api.ErrName, func(n *api.Node) { n.Sizes[1] = "M" }),
		ofNode("no outputs", api.ErrForm, func(n *api.Node) { n.Out = nil }),
	}
	for list := range 3 {
		all = append(all, ofDecls(list)...)
	}
	all = append(all, ofEquation()...)
	return append(all,
		spoiling{"next equation", api.ErrForm, 2, func(p *api.Program) { p.Nodes[1].Eqs[1].Names = nil }},
		spoiling{"last node's name", api.ErrName, -4, func(p *api.Program) { p.Nodes[2].Name = "if" }},
		spoiling{"last node's input", api.ErrType, -4, func(p *api.Program) { p.Nodes[2].In = []api.Decl{{Name: "c"}} }},
		spoiling{"last equation", api.ErrMany, 3, func(p *api.Program) { p.Nodes[2].Eqs[0].E[0] = chain(api.MaxTerms + 1) }},
		spoiling{"text", api.ErrMany, -1, func(p *api.Program) {
			p.Nodes[2].Eqs = append(p.Nodes[2].Eqs, times(api.MaxEqs-1, plain(fill(num(0), times(api.MaxTerms, api.Term{N: 1, Name: longName}))))...)
		}},
	)
}

// ofEquation are the spoilings of a call.
func ofEquation() []spoiling {
	return []spoiling{
		ofCall("no names", api.ErrForm, func(q *api.Eq) { q.Names = nil }),
		ofCall("no node", api.ErrForm, func(q *api.Eq) { q.Node = "" }),
		ofCall("names", api.ErrMany, func(q *api.Eq) { q.Names = times(api.MaxDecls+1, "C") }),
		ofCall("E", api.ErrMany, func(q *api.Eq) { q.E = append(q.E, times(api.MaxDecls, num(-1))...) }),
		ofCall("sizes", api.ErrMany, func(q *api.Eq) { q.S = append(q.S, nil, nil) }),
		ofCall("name", api.ErrName, func(q *api.Eq) { q.Names[1] = "D" }),
		ofCall("node's name", api.ErrName, func(q *api.Eq) { q.Node = "F" }),
		ofCall("first size", api.ErrForm, func(q *api.Eq) { q.S[0] = nil }),
		ofCall("first size's number", api.ErrNumber, func(q *api.Eq) { q.S[0] = api.Size{{N: api.MaxNum}} }),
		ofCall("second size's name", api.ErrName, func(q *api.Eq) { q.S[1] = api.Size{{Name: "N"}} }),
		ofCall("first E's parts", api.ErrMany, func(q *api.Eq) { q.E[0] = op(99, 0, times(api.MaxTerms, name("A"))...) }),
		ofCall("first E's operator", api.ErrForm, func(q *api.Eq) { q.E[0].K = api.KNot }),
		ofCall("first E's first name", api.ErrName, func(q *api.Eq) { q.E[0].L[0] = name("C") }),
		ofCall("first E's second number", api.ErrNumber, func(q *api.Eq) { q.E[0].L[1] = num(api.MaxNum) }),
		ofCall("second E's parts", api.ErrMany, func(q *api.Eq) { q.E[1] = op(api.XCat, 0, chain(api.MaxTerms), name("A")) }),
		ofCall("second E", api.ErrForm, func(q *api.Eq) { q.E[1].N = 1 }),
		ofCall("fill's name", api.ErrForm, func(q *api.Eq) { q.E[1].L[0].Name = "a" }),
		ofCall("fill's size", api.ErrNumber, func(q *api.Eq) { q.E[1].L[0].S[0] = api.Size{{N: -api.MaxNum}} }),
		ofCall("fill's part", api.ErrForm, func(q *api.Eq) { q.E[1].L[0].L[0].N = 2 }),
		ofCall("map's operator", api.ErrForm, func(q *api.Eq) { q.E[1].L[1].K = 0 }),
		ofCall("map's part", api.ErrName, func(q *api.Eq) { q.E[1].L[1].L[0].Name = "" }),
	}
}

// P3.1: each fault alone, and of each two the one that the chapter names first.
func TestCheckFirstFault(t *testing.T) {
	wantBack(t, "the sample", sample())
	all := spoilings()
	for i, first := range all {
		p := sample()
		first.spoil(&p)
		wantFault(t, first.what, p, first.code, first.at)
		for _, second := range all[i+1:] {
			p := sample()
			second.spoil(&p)
			first.spoil(&p)
			wantFault(t, first.what+" and "+second.what, p, first.code, first.at)
		}
	}
}
