package inst

import (
	"loomwork/api"
	"loomwork/size"
)

// frame is a node that is being unrolled: what it grows, and what it is of.
type frame struct {
	*growth
	api.Node
	numbers []int          // what its sizes are
	names   map[string]int // the variables that its names have
	firstEq int            // the number of its first equation, through the whole program
	place   int            // where a size that is reckoned now has its fault
}

// unroll makes a node's outputs of its inputs, both being variables already.
func (f *frame) unroll(in, out []int) {
	f.typesOf(f.In) // they have variables, but their sizes are reckoned all the same
	f.typesOf(f.Out)
	local := f.typesOf(f.Local)
	f.name(f.In, in)
	f.name(f.Out, out)
	f.name(f.Local, each(local, f.variable))
	for i, q := range f.Eqs {
		f.place = f.firstEq + i
		f.equation(q)
	}
}

func (f *frame) name(decls []api.Decl, variables []int) {
	for i, d := range decls {
		f.names[d.Name] = variables[i]
	}
}

func (f *frame) variableOf(name string) int { return f.names[name] }

func (f *frame) equation(q api.Eq) {
	if q.Node != "" {
		f.call(q)
		return
	}
	r, _ := f.made(q.E[0])
	r.Out = f.variableOf(q.Names[0])
	f.rule(r)
}

func (f *frame) call(q api.Eq) {
	numbers := each(q.S, func(s api.Size) int { return f.reckon(s, 0, api.MaxArray) })
	in := each(q.E, f.part)
	out := each(q.Names, f.variableOf)
	f.frameOf(q.Node, numbers).unroll(in, out)
}

func (f *frame) typesOf(decls []api.Decl) []api.Var { return each(decls, f.typeOfDecl) }

func (f *frame) typeOfDecl(d api.Decl) api.Var {
	if len(d.T.N) == 0 { // a scalar
		return api.Var{Elem: d.T.Elem}
	}
	return api.Var{Elem: d.T.Elem, N: f.reckon(d.T.N, 1, api.MaxArray)}
}

// reckon gives up if the size has no number, or not one from least to most.
func (f *frame) reckon(s api.Size, least, most int) int {
	n, fault := size.Value(s, f.Sizes, f.numbers)
	if fault.Code != 0 || n < least || n > most {
		giveUp(api.ErrSize, f.place)
	}
	return n
}
