package render

import (
	"strconv"

	"loomwork/api"
)

// writer writes programs that checkNodes finds no fault in.
type writer struct{ text []byte }

// full tells whether there is more than a text may have.
func (w *writer) full() bool { return len(w.text) > api.MaxText }

// put leaves out what comes behind a text that is too long already: a program
// may say far more than anyone is to get.
func (w *writer) put(texts ...string) {
	for _, s := range texts {
		if !w.full() {
			w.text = append(w.text, s...)
		}
	}
}

// row writes things with commas between them, each by the function.
func row[T any](w *writer, list []T, write func(T)) {
	for i, thing := range list {
		if i > 0 {
			w.put(", ")
		}
		write(thing)
	}
}

func (w *writer) word(s string) { w.put(s) }

func (w *writer) number(n int64) { w.put(strconv.FormatInt(n, 10)) }

func (w *writer) program(p api.Program) {
	for _, n := range p.Nodes {
		w.node(n)
	}
}

func (w *writer) node(n api.Node) {
	w.put("node ", n.Name)
	angled(w, n.Sizes, w.word)
	w.put("(")
	row(w, n.In, w.decl)
	w.put(") -> (")
	row(w, n.Out, w.decl)
	w.put(") {\n")
	for _, d := range n.Local {
		w.put("\tvar ")
		w.decl(d)
		w.put(";\n")
	}
	for _, q := range n.Eqs {
		if w.full() {
			return
		}
		w.equation(q)
	}
	w.put("}\n")
}

// angled writes sizes, or their names, if there are any.
func angled[T any](w *writer, list []T, write func(T)) {
	if len(list) == 0 {
		return
	}
	w.put("<")
	row(w, list, write)
	w.put(">")
}

func (w *writer) decl(d api.Decl) {
	w.put(d.Name, ": ")
	if d.T.Elem == 'i' {
		w.put("int")
	} else {
		w.put("bool")
	}
	if len(d.T.N) > 0 {
		w.put("^")
		w.size(d.T.N)
	}
}

func (w *writer) size(size api.Size) {
	for i, t := range size {
		w.put(signAhead(t.N, i == 0))
		w.term(t)
	}
}

func signAhead(n int64, isFirst bool) string {
	switch {
	case isFirst && n < 0:
		return "-"
	case isFirst:
		return ""
	case n < 0:
		return " - "
	}
	return " + "
}

// term writes a term without its sign.
func (w *writer) term(t api.Term) {
	n := max(t.N, -t.N)
	switch {
	case t.Name == "":
		w.number(n)
	case n == 1:
		w.put(t.Name)
	default:
		w.number(n)
		w.put("*", t.Name)
	}
}

func (w *writer) equation(q api.Eq) {
	w.put("\t")
	row(w, q.Names, w.word)
	w.put(" = ")
	if q.Node == "" {
		w.expr(q.E[0])
	} else {
		w.call(q)
	}
	w.put(";\n")
}

func (w *writer) call(q api.Eq) {
	w.put("call ", q.Node)
	angled(w, q.S, w.size)
	w.put("(")
	row(w, q.E, w.expr)
	w.put(")")
}

// expr writes an expression where anything may stand bare.
func (w *writer) expr(e api.Expr) { w.part(e, rankIf) }

// part writes an expression where those below a rank stand in brackets.
func (w *writer) part(e api.Expr, least int) {
	if rankOf(e) >= least {
		w.bare(e)
		return
	}
	w.put("(")
	w.bare(e)
	w.put(")")
}

func rankOf(e api.Expr) int {
	switch e.Op {
	case api.XUn, api.XBin:
		return operators[e.K].rank
	case api.XIf:
		return rankIf
	}
	return rankUnit
}

func (w *writer) bare(e api.Expr) {
	switch e.Op {
	case api.XNum:
		w.number(e.N)
	case api.XTruth:
		w.put(strconv.FormatBool(e.N == 1))
	case api.XName:
		w.put(e.Name)
	case api.XUn:
		w.put(operators[e.K].sign)
		w.part(e.L[0], rankAhead)
	case api.XBin:
		w.pair(e)
	case api.XIf:
		w.choice(e)
	case api.XIndex:
		w.indexed(e)
	default:
		w.form(e)
	}
}

func (w *writer) pair(e api.Expr) {
	op := operators[e.K]
	if op.sign == "" {
		w.put(op.word, "(")
		row(w, e.L, w.expr)
		w.put(")")
		return
	}
	left := op.rank
	if left == rankCompare { // comparisons don't go together
		left++
	}
	w.part(e.L[0], left)
	w.put(op.sign)
	w.part(e.L[1], op.rank+1)
}

func (w *writer) choice(e api.Expr) {
	w.put("if ")
	w.expr(e.L[0])
	w.put(" then ")
	w.expr(e.L[1])
	w.put(" else ")
	w.expr(e.L[2])
}

func (w *writer) indexed(e api.Expr) {
	w.part(e.L[0], rankUnit)
	w.put("[")
	w.expr(e.L[1])
	w.put(" : ")
	w.expr(e.L[2])
	w.put("]")
}

// form writes a word with brackets: its operator first, if it has one, its
// sizes last.
func (w *writer) form(e api.Expr) {
	w.put(shapes[e.Op].word, "(")
	if e.K != 0 {
		w.put(operators[e.K].word, ", ")
	}
	row(w, e.L, w.expr)
	for _, size := range e.S {
		w.put(", ")
		w.size(size)
	}
	w.put(")")
}
