package syntax

import "loomwork/api"

// reader reads tokens from the front. What can't be read it gives up by a
// panic, so that no function between has to hand a fault on.
type reader struct {
	tokens []api.Token
	next   int // the token that is read next, by its number
	length int // of the text
	open   int // how many things are open
}

type givenUp struct{ fault api.Fault }

func giveUp(code, at int) {
	panic(givenUp{api.Fault{Code: code, At: at}})
}

// peek answers the next token; behind the last one it is of no kind, without a
// text, and stands at the text's end.
func (r *reader) peek() api.Token {
	if r.next == len(r.tokens) {
		return api.Token{At: r.length}
	}
	return r.tokens[r.next]
}

// sees goes by the text alone: no name and no number has that of a word or of
// a sign.
func (r *reader) sees(text string) bool { return r.peek().Text == text }

func (r *reader) step() { r.next++ }

func (r *reader) take(text string) bool {
	if !r.sees(text) {
		return false
	}
	r.step()
	return true
}

func (r *reader) need(text string) {
	if !r.take(text) {
		r.refuse()
	}
}

// refuse gives up at a token that can't stand where it stands.
func (r *reader) refuse() {
	t := r.peek()
	if t.Kind == 0 {
		giveUp(api.ErrShort, t.At)
	}
	giveUp(api.ErrForm, t.At)
}

// allow gives up at what comes next if there are as many as there may be.
func (r *reader) allow(have, most int) {
	if have >= most {
		giveUp(api.ErrMany, r.peek().At)
	}
}

func (r *reader) name() string {
	t := r.peek()
	if t.Kind != api.TokName {
		r.refuse()
	}
	r.step()
	return t.Text
}

// row reads things with commas between them: one at least. That there are too
// many is told behind a comma, whatever stands there.
func row[T any](r *reader, most int, read func() T) []T {
	var list []T
	for {
		r.allow(len(list), most)
		list = append(list, read())
		if !r.take(",") {
			return list
		}
	}
}

func (r *reader) program() api.Program {
	nodes := []api.Node{r.node()}
	for r.peek().Kind != 0 {
		if r.sees("node") {
			r.allow(len(nodes), api.MaxNodes)
		}
		nodes = append(nodes, r.node())
	}
	return api.Program{Nodes: nodes}
}

func (r *reader) node() api.Node {
	n := api.Node{At: r.peek().At}
	r.need("node")
	n.Name = r.name()
	if r.take("<") {
		n.Sizes = row(r, api.MaxSizes, r.name)
		r.need(">")
	}
	r.need("(")
	if !r.take(")") {
		n.In = row(r, api.MaxDecls, r.decl)
		r.need(")")
	}
	r.need("->")
	r.need("(")
	n.Out = row(r, api.MaxDecls, r.decl)
	r.need(")")
	r.need("{")
	for !r.take("}") {
		r.line(&n)
	}
	return n
}

// line reads a local or an equation of a node.
func (r *reader) line(n *api.Node) {
	if r.take("var") {
		r.allow(len(n.Local), api.MaxDecls)
		n.Local = append(n.Local, r.decl())
	} else {
		if r.peek().Kind == api.TokName {
			r.allow(len(n.Eqs), api.MaxEqs)
		}
		n.Eqs = append(n.Eqs, r.equation())
	}
	r.need(";")
}

func (r *reader) decl() api.Decl {
	d := api.Decl{Name: r.name()}
	r.need(":")
	switch {
	case r.take("int"):
		d.T.Elem = 'i'
	case r.take("bool"):
		d.T.Elem = 'b'
	default:
		r.refuse()
	}
	if r.take("^") {
		d.T.N = r.size()
	}
	return d
}

func (r *reader) size() api.Size {
	minus := r.take("-")
	size := api.Size{r.term(minus)}
	for r.sees("+") || r.sees("-") {
		r.allow(len(size), api.MaxTerms)
		minus = r.sees("-")
		r.step()
		size = append(size, r.term(minus))
	}
	return size
}

func (r *reader) term(minus bool) api.Term {
	t := api.Term{N: 1}
	if number := r.peek(); number.Kind == api.TokNumber {
		r.step()
		t.N = number.N
		if r.take("*") {
			t.Name = r.name()
		}
	} else {
		t.Name = r.name()
	}
	if minus {
		t.N = -t.N
	}
	return t
}

func (r *reader) equation() api.Eq {
	q := api.Eq{At: r.peek().At}
	q.Names = row(r, api.MaxDecls, r.name)
	r.need("=")
	if len(q.Names) == 1 && !r.sees("call") {
		q.E = []api.Expr{r.whole()}
		return q
	}
	r.need("call")
	q.Node = r.name()
	if r.take("<") {
		q.S = row(r, api.MaxSizes, r.size)
		r.need(">")
	}
	r.need("(")
	if !r.take(")") {
		q.E = row(r, api.MaxDecls, r.whole)
		r.need(")")
	}
	return q
}
