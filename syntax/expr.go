package syntax

import "loomwork/api"

// operators are the words that stand for operators, from api.KAdd on.
var operators = [...]string{
	"add", "sub", "mul", "div", "mod", "min", "max",
	"less", "eq", "and", "or", "xor", "neg", "not",
}

// whole reads an expression that is an equation's or a call's: only of such a
// one, and only once it is over, its parts are counted.
func (r *reader) whole() api.Expr {
	at := r.peek().At
	e := r.expr()
	if countParts(e) > api.MaxTerms {
		giveUp(api.ErrMany, at)
	}
	return e
}

func countParts(e api.Expr) int {
	n := 1
	for _, part := range e.L {
		n += countParts(part)
	}
	return n
}

func (r *reader) expr() api.Expr { return r.fromLeft(api.KOr, api.KXor, r.conjunction) }

func (r *reader) conjunction() api.Expr { return r.fromLeft(api.KAnd, api.KAnd, r.comparison) }

// comparison takes one sign at most: comparisons don't go together.
func (r *reader) comparison() api.Expr {
	left := r.sum()
	k := r.between(api.KLess, api.KEq)
	if k == 0 {
		return left
	}
	r.step()
	return pair(k, left, r.sum())
}

func (r *reader) sum() api.Expr { return r.fromLeft(api.KAdd, api.KSub, r.product) }

func (r *reader) product() api.Expr { return r.fromLeft(api.KMul, api.KMod, r.ahead) }

// fromLeft reads operations of one kind, whose operators are those from first
// to last.
func (r *reader) fromLeft(first, last int, read func() api.Expr) api.Expr {
	left := read()
	for {
		k := r.between(first, last)
		if k == 0 {
			return left
		}
		r.step()
		left = pair(k, left, read())
	}
}

// between answers the operator that the next token is between two parts, if it
// is one of those from first to last; else 0.
func (r *reader) between(first, last int) int {
	k := signOperator(r.peek().Text)
	if k < first || k > last {
		return 0
	}
	return k
}

func signOperator(text string) int {
	switch text {
	case "+":
		return api.KAdd
	case "-":
		return api.KSub
	case "*":
		return api.KMul
	case "/":
		return api.KDiv
	case "%":
		return api.KMod
	case "<":
		return api.KLess
	case "==":
		return api.KEq
	case "and":
		return api.KAnd
	case "or":
		return api.KOr
	case "xor":
		return api.KXor
	}
	return 0
}

func pair(k int, left, right api.Expr) api.Expr {
	return api.Expr{Op: api.XBin, K: k, L: []api.Expr{left, right}}
}

// opened steps over a token that opens something, reads on by the function,
// and closes again.
func (r *reader) opened(read func() api.Expr) api.Expr {
	if r.open >= api.MaxOpen {
		giveUp(api.ErrDeep, r.peek().At)
	}
	r.open++
	r.step()
	e := read()
	r.open--
	return e
}

func (r *reader) ahead() api.Expr {
	switch {
	case r.sees("-"):
		return r.signed(api.KNeg)
	case r.sees("not"):
		return r.signed(api.KNot)
	}
	e := r.unit()
	for r.sees("[") {
		e = r.indexed(e)
	}
	return e
}

func (r *reader) signed(k int) api.Expr {
	return r.opened(func() api.Expr {
		return api.Expr{Op: api.XUn, K: k, L: []api.Expr{r.ahead()}}
	})
}

func (r *reader) indexed(array api.Expr) api.Expr {
	return r.opened(func() api.Expr {
		at := r.expr()
		r.need(":")
		other := r.expr()
		r.need("]")
		return api.Expr{Op: api.XIndex, L: []api.Expr{array, at, other}}
	})
}

func (r *reader) unit() api.Expr {
	t := r.peek()
	switch {
	case t.Kind == api.TokNumber:
		r.step()
		return api.Expr{Op: api.XNum, N: t.N}
	case t.Kind == api.TokName:
		r.step()
		return api.Expr{Op: api.XName, Name: t.Text}
	case r.take("true"):
		return api.Expr{Op: api.XTruth, N: 1}
	case r.take("false"):
		return api.Expr{Op: api.XTruth}
	case r.sees("("):
		return r.opened(r.bracketed)
	case r.sees("if"):
		return r.opened(r.choice)
	}
	return r.form(t.Text)
}

func (r *reader) bracketed() api.Expr {
	e := r.expr()
	r.need(")")
	return e
}

func (r *reader) choice() api.Expr {
	truth := r.expr()
	r.need("then")
	yes := r.expr()
	r.need("else")
	no := r.expr()
	return api.Expr{Op: api.XIf, L: []api.Expr{truth, yes, no}}
}

// form reads a word with its parts in brackets.
func (r *reader) form(word string) api.Expr {
	var e api.Expr
	part := func() { e.L = append(e.L, r.expr()) }
	size := func() { e.S = append(e.S, r.size()) }
	operator := func() { e.K = r.operator() }
	oneOrTwo := func() {
		part()
		if r.take(",") {
			part()
		}
	}
	inBrackets := func(op, k int, parts ...func()) api.Expr {
		return r.opened(func() api.Expr {
			e.Op, e.K = op, k
			r.brackets(parts)
			return e
		})
	}
	switch word {
	case "min":
		return inBrackets(api.XBin, api.KMin, part, part)
	case "max":
		return inBrackets(api.XBin, api.KMax, part, part)
	case "map":
		return inBrackets(api.XMap, 0, operator, oneOrTwo)
	case "fold":
		return inBrackets(api.XFold, 0, operator, part, part)
	case "scan":
		return inBrackets(api.XScan, 0, operator, part, part)
	case "fill":
		return inBrackets(api.XFill, 0, part, size)
	case "with":
		return inBrackets(api.XWith, 0, part, part, part)
	case "slice":
		return inBrackets(api.XSlice, 0, part, size, size)
	case "cat":
		return inBrackets(api.XCat, 0, part, part)
	case "pre":
		return inBrackets(api.XPre, 0, part, part)
	}
	r.refuse()
	return e
}

// brackets reads the parts of a form, each by its function.
func (r *reader) brackets(parts []func()) {
	r.need("(")
	for i, read := range parts {
		if i > 0 {
			r.need(",")
		}
		read()
	}
	r.need(")")
}

func (r *reader) operator() int {
	for i, word := range operators {
		if r.take(word) {
			return api.KAdd + i
		}
	}
	r.refuse()
	return 0
}
