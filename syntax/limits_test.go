package syntax

import (
	"strconv"
	"strings"
	"testing"

	"loomwork/api"
)

// repeated puts n texts one behind the other, each made of its number.
func repeated(n int, make func(i int) string) string {
	var all strings.Builder
	for i := range n {
		all.WriteString(make(i))
	}
	return all.String()
}

// joined is the same with commas between.
func joined(n int, make func(i int) string) string {
	return strings.TrimPrefix(repeated(n, func(i int) string { return ", " + make(i) }), ", ")
}

func numbered(i int) string { return "v" + strconv.Itoa(i) }

func declared(i int) string { return numbered(i) + ": int" }

// P2.1: MaxNodes nodes, and one more: at its word "node", whatever follows.
func TestNodesLimit(t *testing.T) {
	one := "node a() -> (b: int) {} "
	full := strings.Repeat(one, api.MaxNodes)
	if p := parsed(t, full); len(p.Nodes) != api.MaxNodes {
		t.Errorf("%d nodes, want %d", len(p.Nodes), api.MaxNodes)
	}
	for _, more := range []string{one, "node", "node )", "node node"} {
		wantFault(t, full+more, api.ErrMany, len(full))
	}
	for _, more := range []string{"a", "}", "(", "1", "var"} {
		wantFault(t, full+more, api.ErrForm, len(full))
	}
}

// lists are texts with a list of things that may be too long: what stands
// ahead of it, its things, how many there may be, and what stands behind it.
var lists = []struct {
	front string
	thing func(i int) string
	most  int
	end   string
}{
	{"node a<", numbered, api.MaxSizes, ">() -> (b: int) {}"},
	{"node a(", declared, api.MaxDecls, ") -> (b: int) {}"},
	{"node a() -> (", declared, api.MaxDecls, ") {}"},
	{bodyFront, numbered, api.MaxDecls, " = call f(); }"},
	{bodyFront + "b = call f<", func(i int) string { return "n - 2" }, api.MaxSizes, ">(); }"},
	{bodyFront + "b = call f(", func(i int) string { return "-x + 1" }, api.MaxDecls, "); }"},
	{bodyFront + "b, c = call f<n>(", numbered, api.MaxDecls, "); }"},
}

// P2.1: lists as long as they may be, and one more: at what stands behind the
// comma, whatever it is, or at the text's length.
func TestListLimits(t *testing.T) {
	for _, list := range lists {
		full := list.front + joined(list.most, list.thing)
		parsed(t, full+list.end)
		for _, more := range []string{list.thing(1) + list.end, "1", ")", ",", "node", "("} {
			wantFault(t, full+", "+more, api.ErrMany, len(full)+2)
			wantFault(t, full+", # more\n"+more, api.ErrMany, len(full)+9)
		}
		wantFault(t, full+",", api.ErrMany, len(full)+1)
		wantFault(t, full+", # more", api.ErrMany, len(full)+8)
		less := list.front + joined(list.most-1, list.thing)
		parsed(t, less+list.end)
		wantFault(t, less+", ]", api.ErrForm, len(less)+2)
		wantFault(t, less+",", api.ErrShort, len(less)+1)
	}
}

// P2.1: a list's limit is each list's own, not that of all of them.
func TestLimitsAreEachListsOwn(t *testing.T) {
	decls := joined(api.MaxDecls, declared)
	names := joined(api.MaxDecls, numbered)
	sizes := joined(api.MaxSizes, numbered)
	locals := repeated(api.MaxDecls, func(i int) string { return "var " + declared(i) + "; " })
	call := names + " = call f<" + sizes + ">(" + names + "); "
	p := parsed(t, "node a<"+sizes+">("+decls+") -> ("+decls+") { "+locals+call+call+"}")
	n := p.Nodes[0]
	for i, got := range []int{len(n.Sizes), len(n.In), len(n.Out), len(n.Local), len(n.Eqs[1].Names), len(n.Eqs[1].S), len(n.Eqs[1].E)} {
		if want := []int{api.MaxSizes, api.MaxDecls, api.MaxDecls, api.MaxDecls, api.MaxDecls, api.MaxSizes, api.MaxDecls}[i]; got != want {
			t.Errorf("list %d has %d, want %d", i, got, want)
		}
	}
}

// P2.1: MaxDecls locals, and one more: at what stands behind its "var".
func TestLocalsLimit(t *testing.T) {
	full := bodyFront + repeated(api.MaxDecls, func(i int) string {
		if i%2 == 0 {
			return "var " + declared(i) + "; b = 1; "
		}
		return "var " + declared(i) + "; "
	})
	if n := parsed(t, full+bodyEnd).Nodes[0]; len(n.Local) != api.MaxDecls {
		t.Errorf("%d locals, want %d", len(n.Local), api.MaxDecls)
	}
	for _, more := range []string{"c: int; }", "c", "1", "}", "var"} {
		wantFault(t, full+"var "+more, api.ErrMany, len(full)+4)
		wantFault(t, full+"b = 1; var "+more, api.ErrMany, len(full)+11)
	}
	wantFault(t, full+"var", api.ErrMany, len(full)+3)
	wantFault(t, full, api.ErrShort, len(full))
	parsed(t, full+"}"+" node c() -> (b: int) { var d: int; }")
}

// P2.1: MaxEqs equations, and one more: at the name that begins it.
func TestEquationsLimit(t *testing.T) {
	full := bodyFront + repeated(api.MaxEqs, func(i int) string {
		return []string{"b = 1; ", "b, c = call f(); ", "b = 1; var " + declared(i) + "; "}[i%3]
	})
	if n := parsed(t, full+bodyEnd).Nodes[0]; len(n.Eqs) != api.MaxEqs {
		t.Errorf("%d equations, want %d", len(n.Eqs), api.MaxEqs)
	}
	for _, more := range []string{"b = 1; }", "b", "c, d", "c c"} {
		wantFault(t, full+more, api.ErrMany, len(full))
		wantFault(t, full+"var e: int; "+more, api.ErrMany, len(full)+12)
	}
	for _, more := range []string{"1", ";", "node", "call"} {
		wantFault(t, full+more, api.ErrForm, len(full))
	}
	parsed(t, full+"var e: int; }")
	parsed(t, full+"}"+" node c() -> (b: int) { b = 1; }")
}

// P2.1: MaxTerms terms of a size, and one more: at its sign.
func TestTermsLimit(t *testing.T) {
	for _, front := range []string{"node a(b: int^", bodyFront + "var c: bool^", bodyFront + "b = call f<", exprFront + "fill(1, ", exprFront + "slice(x, 1, "} {
		full := front + "-n" + repeated(api.MaxTerms-1, func(i int) string { return []string{" + 1", " - 2*n"}[i%2] })
		wantFault(t, full, api.ErrShort, len(full))
		for _, more := range []string{"+ 1)", "- n", "+", "-", "+ +"} {
			wantFault(t, full+" "+more, api.ErrMany, len(full)+1)
		}
		wantFault(t, full+" 1", api.ErrForm, len(full)+1)
		less := front + "n" + strings.Repeat(" + 1", api.MaxTerms-2)
		wantFault(t, less+" - 1", api.ErrShort, len(less)+4)
		wantFault(t, less+" - ]", api.ErrForm, len(less)+3)
	}
	size := "1" + strings.Repeat(" + n", api.MaxTerms-1)
	e := exprOf(t, "slice(x, "+size+", "+size+")")
	if len(e.S[0]) != api.MaxTerms || len(e.S[1]) != api.MaxTerms {
		t.Errorf("sizes of %d and %d terms", len(e.S[0]), len(e.S[1]))
	}
	wantExprFault(t, "slice(x, "+size+" - 1, 2)", api.ErrMany, 9+len(size)+1)
}

// grown are ways of making an expression greater by some parts: text of %.
var grown = []struct {
	text  string
	parts int
}{
	{"%+1", 2}, {"1-%", 2}, {"(%)", 0}, {"-%", 1}, {"not(%)", 1}, {"%and x", 2}, {"%[1:2]", 3}, {"x[%:y]", 3}, {"x[1:%]", 3},
	{"(if % then 1 else 2)", 3}, {"if 1 then % else 2", 3}, {"if 1 then 2 else %", 3}, {"min(%,1)", 2}, {"max(1,%)", 2},
	{"map(add,%)", 1}, {"map(add,%,1)", 2}, {"map(add,1,%)", 2}, {"fold(add,%,1)", 2}, {"scan(or,true,%)", 2}, {"fill(%,n+2)", 1},
	{"with(%,1,2)", 3}, {"with(1,%,2)", 3}, {"with(1,2,%)", 3}, {"slice(%,n,m)", 1}, {"cat(%,1)", 2}, {"pre(1,%)", 2}, {"(1==%)", 2},
}

// ofParts makes an expression of n parts around a growth of some parts.
func ofParts(n int, text string, parts int) string {
	for n -= 1 + parts; n > 1; n -= 2 {
		text = strings.Replace(text, "%", "(%*x)", 1)
	}
	if n == 1 {
		text = strings.Replace(text, "%", "(-%)", 1)
	}
	return strings.Replace(text, "%", "y", 1)
}

// P2.1: MaxTerms parts of an expression, and one more: at its first token.
func TestPartsLimit(t *testing.T) {
	for _, g := range grown {
		full, more := ofParts(api.MaxTerms, g.text, g.parts), ofParts(api.MaxTerms+1, g.text, g.parts)
		if got := countTold(exprOf(t, full)); got != api.MaxTerms {
			t.Errorf("%q: %d parts, want %d", full, got, api.MaxTerms)
		}
		wantExprFault(t, more, api.ErrMany, 0)
		wantExprFault(t, "(("+more+"))", api.ErrMany, 0)
		parsed(t, bodyFront+"b = call f(x, "+full+", "+full+");"+bodyEnd)
		front := bodyFront + "b = call f(" + full + ", "
		wantFault(t, front+more+", "+full+");"+bodyEnd, api.ErrMany, len(front))
		wantFault(t, front+full+", "+more+");"+bodyEnd, api.ErrMany, len(front)+len(full)+2)
	}
}

func countTold(e api.Expr) int { return strings.Count(toldExpr(e), "(") }

// P2.1: too many parts are told where the expression is over: behind a fault
// within it, ahead of one behind it.
func TestPartsLimitIsToldLate(t *testing.T) {
	many := "1" + strings.Repeat("+1", 15)
	at := len(exprFront)
	wantFault(t, exprFront+many+"; }", api.ErrMany, at)
	wantFault(t, exprFront+many, api.ErrMany, at)
	for _, behind := range []string{" 2", " )", " ]", " node", "; )", ", 3", " : 1", "; b = ;"} {
		wantFault(t, exprFront+many+behind, api.ErrMany, at)
	}
	wantFault(t, exprFront+many+" + ", api.ErrShort, at+len(many)+3)
	wantFault(t, exprFront+many+" + )", api.ErrForm, at+len(many)+3)
	wantFault(t, exprFront+"("+many, api.ErrShort, at+1+len(many))
	wantFault(t, exprFront+"("+many+";", api.ErrForm, at+1+len(many))
	wantFault(t, exprFront+many+" + "+strings.Repeat("(", api.MaxOpen+1), api.ErrDeep, at+len(many)+3+api.MaxOpen)
	size := "1" + strings.Repeat("+1", api.MaxTerms)
	wantFault(t, exprFront+many+" + fill(1, "+size, api.ErrMany, at+len(many)+11+len(size)-2)
	front := bodyFront + "b, c = call f("
	wantFault(t, front+many+", ,", api.ErrMany, len(front))
	wantFault(t, front+"x, "+many+" 1", api.ErrMany, len(front)+3)
	wantFault(t, front+"), d = 1; e = "+many+";", api.ErrForm, len(front)+1)
	wantFault(t, exprFront+"1; c = "+many+";", api.ErrMany, at+7)
}

// P2.1: MaxOpen that are open, and one more, by each token that opens.
func TestOpenLimit(t *testing.T) {
	for text, at := range map[string]int{
		"(1)": 0, "-1": 0, "not 1": 0, "if a then b else c": 0, "min(a,b)": 0, "max(a,b)": 0, "map(neg,a)": 0, "fold(add,a,b)": 0,
		"scan(add,a,b)": 0, "fill(a,2)": 0, "with(a,b,c)": 0, "slice(a,1,2)": 0, "cat(a,b)": 0, "pre(a,b)": 0, "a[b:c]": 1,
		"not": 0, "min": 0, "if )": 0, "a[": 1,
	} {
		for _, outer := range []string{"(", "-", "not ", "x[", "x[1:", "if ", "if 1 then ", "if 1 then 2 else ", "min(", "min(1,", "max(", "max(1,",
			"map(add,", "map(add,1,", "fold(add,", "fold(add,1,", "scan(add,", "scan(add,1,", "fill(", "with(", "with(1,", "with(1,2,", "slice(", "cat(", "cat(1,", "pre(", "pre(1,"} {
			front := exprFront + strings.Repeat(outer, api.MaxOpen)
			wantFault(t, front+text, api.ErrDeep, len(front)+at)
			one := exprFront + strings.Repeat("(", api.MaxOpen-1) + outer
			wantFault(t, one+text, api.ErrDeep, len(one)+at)
			less := exprFront + strings.Repeat(outer, api.MaxOpen-1)
			if _, fault := Parse(less + text); fault.Code == api.ErrDeep {
				t.Errorf("%q in %d times %q: fault %v", text, api.MaxOpen-1, outer, fault)
			}
		}
	}
}

// P2.1: what is open is so till its end, and no longer.
func TestOpenTillTheEnd(t *testing.T) {
	most := strings.Repeat("(", api.MaxOpen-1)
	ends := strings.Repeat(")", api.MaxOpen-1)
	for _, text := range []string{
		"(1)", "-1", "not 1", "min(a,b)", "max(a,b)", "map(neg,a)", "map(add,a,b)", "fold(add,a,b)", "scan(add,a,b)", "fill(a,2)",
		"with(a,b,c)", "slice(a,1,2)", "cat(a,b)", "pre(a,b)", "a[b:c]", "a[b:c][d:e]", "(1)[2:3]", "-1 * -2", "(1)+min(a,b)-(2)",
		"fill(1,-n)", "slice(a,-n,-2-m)", "map(not,a)", "map(min,a,b)", "fold(max,a,b)", "scan(not,a,b)",
	} {
		exprOf(t, most+text+ends)
		exprOf(t, most+text+"+("+"1"+")"+ends)
		exprOf(t, most+text+" or -2"+ends)
	}
	exprOf(t, most+"if a then b else c"+ends)
	exprOf(t, most[2:]+"(if a then b else c) + (-d)"+ends[2:])
	for text, at := range map[string]int{"(a + (b))": 5, "(a * -b)": 5, "-a[1:2]": 2, "not (1)": 4, "--1": 1, "if a then b else c+(d)": 19, "(a)[(b):c]": 4, "a[b:c][-d:e]": 7, "(1-min(2,3))": 3} {
		wantFault(t, exprFront+most+text+ends, api.ErrDeep, len(exprFront+most)+at)
	}
	deep := strings.Repeat("(", api.MaxOpen) + "1" + strings.Repeat(")", api.MaxOpen)
	exprOf(t, deep)
	exprOf(t, deep+" + "+deep)
	exprOf(t, deep+" < "+deep+" and "+deep)
	parsed(t, bodyFront+"b = "+deep+"; b = "+deep+"; c = call f<1>("+deep+", "+deep+");"+bodyEnd)
	wantExprFault(t, deep+" + ("+deep+")", api.ErrDeep, len(deep)+3+api.MaxOpen)
	wantExprFault(t, strings.Repeat("-", api.MaxOpen+1)+"1", api.ErrDeep, api.MaxOpen)
	wantExprFault(t, strings.Repeat("-", api.MaxOpen)+"1", api.ErrMany, 0)
}

// P2.1: a word that opens is no more than that where MaxOpen are open: what
// can't stand at all is no opening.
func TestOpenLimitIsOfOpeningsAlone(t *testing.T) {
	front := exprFront + strings.Repeat("(", api.MaxOpen)
	for _, text := range []string{")", "]", "[", "+", "then", "else", "add", "call", "node", "*", "{"} {
		wantFault(t, front+text, api.ErrForm, len(front))
	}
	for _, text := range []string{"1(", "x not", "x if", "1 min", "x {"} {
		wantFault(t, front+text, api.ErrForm, len(front)+len(strings.Fields(strings.Replace(text, "(", " (", 1))[0])+strings.Count(text, " "))
	}
	wantFault(t, front, api.ErrShort, len(front))
	wantFault(t, front+"x - 1", api.ErrShort, len(front)+5)
}

// P2.1: of several faults the first from the front, whatever its kind.
func TestFirstFaultFromTheFront(t *testing.T) {
	many := "1" + strings.Repeat("+1", 15)
	deep := strings.Repeat("(", api.MaxOpen+1)
	names := joined(api.MaxDecls+1, numbered)
	lastName := strings.LastIndex(names, " ") + 1
	for _, first := range []struct {
		text     string
		code, at int
	}{
		{"b = " + many + "; ", api.ErrMany, 4},
		{"b = " + deep + "; ", api.ErrDeep, 4 + api.MaxOpen},
		{names + " = 1; ", api.ErrMany, lastName},
		{"b = ; ", api.ErrForm, 4},
		{"var c; ", api.ErrForm, 5},
	} {
		for _, second := range []string{"b = " + many + "; ", "b = " + deep, names, "b = ; ", "var c; ", "node", ""} {
			wantFault(t, bodyFront+"c = 1; "+first.text+second, first.code, len(bodyFront)+7+first.at)
			wantFault(t, bodyFront+"c = 1; "+first.text+second+bodyEnd, first.code, len(bodyFront)+7+first.at)
		}
	}
}
