package syntax

import (
	"strconv"
	"strings"
	"testing"

	"loomwork/api"
)

// toldSize writes a size as its terms in a row.
func toldSize(size api.Size) string {
	var terms []string
	for _, t := range size {
		terms = append(terms, strings.TrimSpace(strconv.FormatInt(t.N, 10)+" "+t.Name))
	}
	return "{" + strings.Join(terms, ", ") + "}"
}

// toldExpr writes an expression with every field that it has, each part in
// brackets of its own.
func toldExpr(e api.Expr) string {
	ops := []string{"?", "num", "truth", "name", "un", "bin", "if", "map", "fold", "scan", "fill", "index", "with", "slice", "cat", "pre"}
	words := []string{ops[e.Op]}
	if e.K != 0 {
		words = append(words, "k"+strconv.Itoa(e.K))
	}
	if e.N != 0 || e.Op == api.XNum || e.Op == api.XTruth {
		words = append(words, strconv.FormatInt(e.N, 10))
	}
	if e.Name != "" {
		words = append(words, e.Name)
	}
	for _, s := range e.S {
		words = append(words, toldSize(s))
	}
	for _, part := range e.L {
		words = append(words, toldExpr(part))
	}
	return "(" + strings.Join(words, " ") + ")"
}

func toldDecls(list []api.Decl) string {
	var words []string
	for _, d := range list {
		word := d.Name + " " + string(rune(d.T.Elem))
		if d.T.N != nil {
			word += " " + toldSize(d.T.N)
		}
		words = append(words, word)
	}
	return strings.Join(words, "; ")
}

func toldEq(q api.Eq) string {
	told := strconv.Itoa(q.At) + " " + strings.Join(q.Names, " ") + " ="
	if q.Node != "" {
		told += " call " + q.Node
	}
	for _, s := range q.S {
		told += " " + toldSize(s)
	}
	for _, e := range q.E {
		told += " " + toldExpr(e)
	}
	return told
}

func toldNode(n api.Node) string {
	lines := []string{
		strconv.Itoa(n.At) + " " + n.Name + " <" + strings.Join(n.Sizes, " ") + ">",
		"in " + toldDecls(n.In), "out " + toldDecls(n.Out), "local " + toldDecls(n.Local),
	}
	for _, q := range n.Eqs {
		lines = append(lines, toldEq(q))
	}
	return strings.Join(lines, "\n")
}

func toldProgram(p api.Program) string {
	var nodes []string
	for _, n := range p.Nodes {
		nodes = append(nodes, toldNode(n))
	}
	return strings.Join(nodes, "\n\n")
}

func parsed(t *testing.T, src string) api.Program {
	t.Helper()
	p, fault := Parse(src)
	if fault != (api.Fault{}) {
		t.Fatalf("Parse(%.200q): fault %v, want none", src, fault)
	}
	return p
}

func wantProgram(t *testing.T, src string, lines ...string) {
	t.Helper()
	if got, want := toldProgram(parsed(t, src)), strings.Join(lines, "\n"); got != want {
		t.Errorf("Parse(%q):\n%s\nwant\n%s", src, got, want)
	}
}

func wantFault(t *testing.T, src string, code, at int) {
	t.Helper()
	p, fault := Parse(src)
	if want := (api.Fault{Code: code, At: at}); fault != want {
		t.Errorf("Parse(%.200q): fault %v, want %v", src, fault, want)
	}
	if len(p.Nodes) != 0 {
		t.Errorf("Parse(%.200q): a program beside a fault", src)
	}
}

// bodyFront stands ahead of what a node says, bodyEnd behind it.
const (
	bodyFront = "node a() -> (b: int) { "
	bodyEnd   = " }"
	exprFront = bodyFront + "b = "
	exprEnd   = ";" + bodyEnd
)

func exprOf(t *testing.T, text string) api.Expr {
	t.Helper()
	p := parsed(t, exprFront+text+exprEnd)
	q := p.Nodes[0].Eqs[0]
	if len(q.E) != 1 || q.Node != "" || len(q.S) != 0 {
		t.Fatalf("%q: equation %v is no plain one", text, q)
	}
	return q.E[0]
}

func wantExpr(t *testing.T, text, want string) {
	t.Helper()
	if got := toldExpr(exprOf(t, text)); got != want {
		t.Errorf("%q: %s, want %s", text, got, want)
	}
}

// wantExprFault takes places from the expression's first byte on.
func wantExprFault(t *testing.T, text string, code, at int) {
	t.Helper()
	wantFault(t, exprFront+text+exprEnd, code, len(exprFront)+at)
}

// P2.1: the chapter's examples.
func TestParseExamples(t *testing.T) {
	wantProgram(t, "node main(x: int) -> (y: int) { y = x - 1 - 2; }",
		"0 main <>", "in x i", "out y i", "local ",
		"32 y = (bin k2 (bin k2 (name x) (num 1)) (num 2))")
	wantExpr(t, "if c then a else b + 1", "(if (name c) (name a) (bin k1 (name b) (num 1)))")
	p := parsed(t, "node f(a: int^2*n - 1) -> (y: int) { y = 1; }")
	if got := toldDecls(p.Nodes[0].In); got != "a i {2 n, -1}" {
		t.Errorf("a: int^2*n - 1: %s", got)
	}
	wantFault(t, "node a(", api.ErrShort, 7)
}

// P2.1: a program of all that the grammar has, over blanks and remarks.
func TestParseWholePrograms(t *testing.T) {
	wantProgram(t, " # first\nnode f<n, m>(a: int^n, c: bool) -> (y: int^2*n - 1, z: bool^m) {\n"+
		"\tvar b: bool;\n\ty, z = call g<n + 1, 3>(a, c); # more\n\tvar d: int^4;\n\tb = c;\n}\n\tnode g() -> (q: int) { }",
		"9 f <n m>", "in a i {1 n}; c b", "out y i {2 n, -1}; z b {1 m}", "local b b; d i {4}",
		"89 y z = call g {1 n, 1} {3} (name a) (name c)",
		"143 b = (name c)", "",
		"153 g <>", "in ", "out q i", "local ")
	wantProgram(t, "node a<n>()->(b:int){b=1;}node a<m>()->(b:int){var b:int;}",
		"0 a <n>", "in ", "out b i", "local ", "21 b = (num 1)", "",
		"26 a <m>", "in ", "out b i", "local b i")
}

// P2.1: locals and equations may stand in any order, and each keeps its own.
func TestParseLines(t *testing.T) {
	lines := []string{"var c: int;", "b = 1;", "var d: bool^2;", "c = 2;"}
	for i := range lines {
		for j := range lines {
			for k := range lines {
				p := parsed(t, bodyFront+lines[i]+lines[j]+lines[k]+bodyEnd)
				var locals, names string
				for _, d := range p.Nodes[0].Local {
					locals += d.Name
				}
				for _, q := range p.Nodes[0].Eqs {
					names += q.Names[0]
				}
				var wantLocals, wantNames string
				for _, line := range []string{lines[i], lines[j], lines[k]} {
					if local, ok := strings.CutPrefix(line, "var "); ok {
						wantLocals += local[:1]
					} else {
						wantNames += line[:1]
					}
				}
				if locals != wantLocals || names != wantNames {
					t.Errorf("lines %d %d %d: locals %q, equations of %q", i, j, k, locals, names)
				}
			}
		}
	}
}

// P2.1: the place of a node and of an equation is that of its first token.
func TestParsePlaces(t *testing.T) {
	src := "#\n\tnode a() -> (b: int) { b = 1;c , d = call e(); var f: int;\n#\n  g = 2; }#\nnode h() -> (b: int) {}"
	p := parsed(t, src)
	for i, front := range []string{"node a", "node h"} {
		if got, want := p.Nodes[i].At, strings.Index(src, front); got != want {
			t.Errorf("%s at %d, want %d", front, got, want)
		}
	}
	for i, front := range []string{"b = 1", "c ,", "g = 2"} {
		if got, want := p.Nodes[0].Eqs[i].At, strings.Index(src, front); got != want {
			t.Errorf("%s at %d, want %d", front, got, want)
		}
	}
}

// P2.1: sizes: terms, numbers and signs.
func TestParseSizes(t *testing.T) {
	for text, want := range map[string]string{
		"n": "{1 n}", "3": "{3}", "0": "{0}", "-0": "{0}", "-n": "{-1 n}", "- 3": "{-3}",
		"2*n": "{2 n}", "-2*n": "{-2 n}", "0*n": "{0 n}", "1*n": "{1 n}",
		"n + m": "{1 n, 1 m}", "n - m": "{1 n, -1 m}", "n - 2*m": "{1 n, -2 m}", "n + n": "{1 n, 1 n}",
		"-n + 3": "{-1 n, 3}", "1 - 2 - 3 + 4": "{1, -2, -3, 4}", "-1 + 2*a - 3*b - c": "{-1, 2 a, -3 b, -1 c}",
		"999999999999999999*n - 999999999999999999": "{999999999999999999 n, -999999999999999999}",
	} {
		p := parsed(t, "node f(a: int^"+text+") -> (y: bool ^ "+text+") { var l: bool^"+text+"; y = call g<"+text+", "+text+">(fill(1, "+text+"), slice(a, "+text+", "+text+")); }")
		n := p.Nodes[0]
		q := n.Eqs[0]
		for _, size := range []api.Size{n.In[0].T.N, n.Out[0].T.N, n.Local[0].T.N, q.S[0], q.S[1], q.E[0].S[0], q.E[1].S[0], q.E[1].S[1]} {
			if got := toldSize(size); got != want {
				t.Errorf("size %q: %s, want %s", text, got, want)
			}
		}
	}
	front := "node f(a: int^"
	for text, at := range map[string]int{
		"+n)": 0, "--n)": 1, "-+n)": 1, "n*2)": 1, "n*m)": 1, "2*3)": 2, "2*-n)": 2, "2 n)": 2, "n 2)": 2, "n + )": 4, "n - - m)": 4,
		"(n))": 0, "n/2)": 1, "2*n*m)": 3, "int)": 0, ")": 0, "-)": 1, "2*)": 2, "n + 2*)": 6, "n, 1)": 3,
	} {
		wantFault(t, front+text+" -> (y: int) {}", api.ErrForm, len(front)+at)
	}
}

// P2.1: types, of inputs, outputs and locals.
func TestParseTypes(t *testing.T) {
	p := parsed(t, "node f(a: int, b: bool, c: int^2, d: bool^n) -> (a: bool, b: int) { var c: bool; var d: int^3; }")
	n := p.Nodes[0]
	for _, test := range []struct{ got, want string }{
		{toldDecls(n.In), "a i; b b; c i {2}; d b {1 n}"},
		{toldDecls(n.Out), "a b; b i"},
		{toldDecls(n.Local), "c b; d i {3}"},
	} {
		if test.got != test.want {
			t.Errorf("%s, want %s", test.got, test.want)
		}
	}
	if n.In[0].T.N != nil && len(n.In[0].T.N) != 0 {
		t.Errorf("a scalar has the size %v", n.In[0].T.N)
	}
}

// P2.1: equations and calls.
func TestParseEquations(t *testing.T) {
	for text, want := range map[string]string{
		"b = 1;":                        "b = (num 1)",
		"b = call f();":                 "b = call f",
		"b = call f(1);":                "b = call f (num 1)",
		"b = call f<n>();":              "b = call f {1 n}",
		"b, c = call f<n, 2, -m>(x, y)": "b c = call f {1 n} {2} {-1 m} (name x) (name y)",
		"b, c, b = call f(1, 2, 3)":     "b c b = call f (num 1) (num 2) (num 3)",
		"b = call b(x < y, x)":          "b = call b (bin k8 (name x) (name y)) (name x)",
		"b = call f<n>((x))":            "b = call f {1 n} (name x)",
		"b = call f((x), -y)":           "b = call f (name x) (un k13 (name y))",
	} {
		p := parsed(t, bodyFront+strings.TrimSuffix(text, ";")+";"+bodyEnd)
		want = strconv.Itoa(len(bodyFront)) + " " + want
		if got := toldEq(p.Nodes[0].Eqs[0]); got != want {
			t.Errorf("%q: %s, want %s", text, got, want)
		}
	}
	for text, at := range map[string]int{
		"b, c = 1;": 7, "b, c = d;": 7, "b, = call f();": 3, ", b = call f();": 0, "b c = 1;": 2, "b = call 1();": 9, "b = call f;": 10,
		"b = call f<>();": 11, "b = call f<n,>();": 13, "b = call f<n;": 12, "b = call f(,);": 11, "b = call f(1,);": 13, "b = call f(1 2);": 13,
		"b = call f() + 1;": 13, "b = 1 + call f();": 8, "b = (call f());": 5, "b = ;": 4, "= 1;": 0, "b == 1;": 2, "b = 1,": 5, "b = call call();": 9,
		"1 = b;": 0, "b = 1 };": 6, ";": 0, "b = 1;;": 6, "b;": 1, "call f();": 0, "b = call f()();": 12, "b = call f<n><m>();": 13, "b = call f(call g());": 11,
	} {
		wantFault(t, bodyFront+text+bodyEnd, api.ErrForm, len(bodyFront)+at)
	}
}

// P2.1: units, and forms, each with the fields that package api names.
func TestParseUnits(t *testing.T) {
	for text, want := range map[string]string{
		"0":                              "(num 0)",
		"999999999999999999":             "(num 999999999999999999)",
		"x":                              "(name x)",
		"true":                           "(truth 1)",
		"false":                          "(truth 0)",
		"(x)":                            "(name x)",
		"(((7)))":                        "(num 7)",
		"if x then y else z":             "(if (name x) (name y) (name z))",
		"min(x, y)":                      "(bin k6 (name x) (name y))",
		"max(x, y)":                      "(bin k7 (name x) (name y))",
		"map(neg, x)":                    "(map k13 (name x))",
		"map(add, x, y)":                 "(map k1 (name x) (name y))",
		"map(neg, x, y)":                 "(map k13 (name x) (name y))",
		"map(add, x)":                    "(map k1 (name x))",
		"fold(add, x, y)":                "(fold k1 (name x) (name y))",
		"scan(max, x, y)":                "(scan k7 (name x) (name y))",
		"fill(x, 2*n - 1)":               "(fill {2 n, -1} (name x))",
		"x[y : z]":                       "(index (name x) (name y) (name z))",
		"x[y:z][1:2]":                    "(index (index (name x) (name y) (name z)) (num 1) (num 2))",
		"with(x, y, z)":                  "(with (name x) (name y) (name z))",
		"slice(x, k, -2 + n)":            "(slice {1 k} {-2, 1 n} (name x))",
		"cat(x, y)":                      "(cat (name x) (name y))",
		"pre(0, y)":                      "(pre (num 0) (name y))",
		"-x":                             "(un k13 (name x))",
		"not x":                          "(un k14 (name x))",
		"-1":                             "(un k13 (num 1))",
		"--x":                            "(un k13 (un k13 (name x)))",
		"not -not x":                     "(un k14 (un k13 (un k14 (name x))))",
		"-x[1 : 2]":                      "(un k13 (index (name x) (num 1) (num 2)))",
		"(-x)[1 : 2]":                    "(index (un k13 (name x)) (num 1) (num 2))",
		"1[2:3]":                         "(index (num 1) (num 2) (num 3))",
		"min(1,2)[3:4]":                  "(index (bin k6 (num 1) (num 2)) (num 3) (num 4))",
		"true[false:-1]":                 "(index (truth 1) (truth 0) (un k13 (num 1)))",
		"x[if a then b else c:d]":        "(index (name x) (if (name a) (name b) (name c)) (name d))",
		"cat(pre(1, x), fill(not y, 3))": "(cat (pre (num 1) (name x)) (fill {3} (un k14 (name y))))",
		"fold(add, 0, map(mul, a, b))":   "(fold k1 (num 0) (map k3 (name a) (name b)))",
		"with(x + 1, y or z, -1)":        "(with (bin k1 (name x) (num 1)) (bin k11 (name y) (name z)) (un k13 (num 1)))",
	} {
		wantExpr(t, text, want)
	}
}

// P2.1: op: each of the fourteen in each form that has one.
func TestParseOperatorWords(t *testing.T) {
	words := strings.Fields("add sub mul div mod min max less eq and or xor neg not")
	numbers := []int{api.KAdd, api.KSub, api.KMul, api.KDiv, api.KMod, api.KMin, api.KMax, api.KLess, api.KEq, api.KAnd, api.KOr, api.KXor, api.KNeg, api.KNot}
	for i, word := range words {
		k := " k" + strconv.Itoa(numbers[i]) + " "
		wantExpr(t, "map("+word+", x)", "(map"+k+"(name x))")
		wantExpr(t, "map("+word+", x, y)", "(map"+k+"(name x) (name y))")
		wantExpr(t, "fold("+word+", x, y)", "(fold"+k+"(name x) (name y))")
		wantExpr(t, "scan("+word+", x, y)", "(scan"+k+"(name x) (name y))")
	}
	for _, none := range []string{"x", "1", "+", "-", "cat", "map", "if", "true", "(add)", ",", ")"} {
		wantExprFault(t, "map("+none+", x)", api.ErrForm, 4)
		wantExprFault(t, "fold("+none+", x, y)", api.ErrForm, 5)
		wantExprFault(t, "scan("+none+", x, y)", api.ErrForm, 5)
	}
	for _, word := range strings.Fields("add sub mul div mod less eq and or xor neg") {
		wantExprFault(t, word+"(x, y)", api.ErrForm, 0)
	}
}

// infix are the operators between two parts; those of a higher level hold
// their parts closer.
var infix = []struct {
	text     string
	k, level int
}{
	{"or", api.KOr, 0}, {"xor", api.KXor, 0}, {"and", api.KAnd, 1}, {"<", api.KLess, 2}, {"==", api.KEq, 2},
	{"+", api.KAdd, 3}, {"-", api.KSub, 3}, {"*", api.KMul, 4}, {"/", api.KDiv, 4}, {"%", api.KMod, 4},
}

// split tells how parts with operators between them go together: at the last
// operator of the lowest level both sides meet. It is not ok where comparisons
// would have to go together.
func split(parts []string, ops []int) (told string, ok bool) {
	if len(ops) == 0 {
		return parts[0], true
	}
	at := 0
	for i, op := range ops {
		if infix[op].level <= infix[ops[at]].level {
			at = i
		}
	}
	left, leftOk := split(parts[:at+1], ops[:at])
	right, rightOk := split(parts[at+1:], ops[at+1:])
	alone := true
	for _, op := range ops[:at] {
		alone = alone && infix[op].level != 2
	}
	ok = leftOk && rightOk && (alone || infix[ops[at]].level != 2)
	return "(bin k" + strconv.Itoa(infix[ops[at]].k) + " " + left + " " + right + ")", ok
}

// P2.1: what goes together with what: all rows of up to three operators, with
// signs ahead of some of the parts.
func TestParseInfix(t *testing.T) {
	texts := []string{"a", "-b", "not c", "d[1:2]"}
	tolds := []string{"(name a)", "(un k13 (name b))", "(un k14 (name c))", "(index (name d) (num 1) (num 2))"}
	for n := range 1000 {
		ops := []int{n % 10, n / 10 % 10, n / 100}
		for many := 1; many <= len(ops); many++ {
			text := texts[0]
			for i, op := range ops[:many] {
				text += " " + infix[op].text + " " + texts[i+1]
			}
			if want, ok := split(tolds[:many+1], ops[:many]); ok {
				wantExpr(t, text, want)
				wantExpr(t, "("+text+")", want)
			} else if _, fault := Parse(exprFront + text + exprEnd); fault.Code != api.ErrForm {
				t.Errorf("%q: fault %v, want ErrForm", text, fault)
			}
		}
	}
}

// P2.1: brackets hold together what would not go together, and leave nothing.
func TestParseBrackets(t *testing.T) {
	for _, first := range infix {
		for _, second := range infix {
			k, j := strconv.Itoa(first.k), strconv.Itoa(second.k)
			wantExpr(t, "(a "+first.text+" b) "+second.text+" c", "(bin k"+j+" (bin k"+k+" (name a) (name b)) (name c))")
			wantExpr(t, "a "+first.text+" ((b "+second.text+" c))", "(bin k"+k+" (name a) (bin k"+j+" (name b) (name c)))")
		}
		wantExpr(t, "-(a "+first.text+" b)", "(un k13 (bin k"+strconv.Itoa(first.k)+" (name a) (name b)))")
		wantExpr(t, "(a "+first.text+" b)[1:2]", "(index (bin k"+strconv.Itoa(first.k)+" (name a) (name b)) (num 1) (num 2))")
	}
}

// P2.1: comparisons don't go together; the second sign can't stand.
func TestParseComparisons(t *testing.T) {
	for _, first := range []string{"<", "=="} {
		for _, second := range []string{"<", "=="} {
			wantExprFault(t, "1 "+first+" 2 + 3 "+second+" 4", api.ErrForm, 2+len(first)+7)
			wantExprFault(t, "x and 1 "+first+" 2 "+second+" 4", api.ErrForm, 8+len(first)+3)
			wantExprFault(t, "(1 "+first+" 2 "+second+" 4)", api.ErrForm, 3+len(first)+3)
		}
	}
	wantExprFault(t, "1 > 2", api.ErrForm, 2)
	wantExprFault(t, "1 = 2", api.ErrForm, 2)
}

// P2.1: what stands behind "else" goes on as far as it can.
func TestParseElse(t *testing.T) {
	for _, op := range infix {
		k := "k" + strconv.Itoa(op.k)
		wantExpr(t, "if c then a else b "+op.text+" d", "(if (name c) (name a) (bin "+k+" (name b) (name d)))")
		wantExpr(t, "if c "+op.text+" d then a "+op.text+" d else b", "(if (bin "+k+" (name c) (name d)) (bin "+k+" (name a) (name d)) (name b))")
		wantExpr(t, "(if c then a else b) "+op.text+" d", "(bin "+k+" (if (name c) (name a) (name b)) (name d))")
		for _, ahead := range infix {
			wantExpr(t, "e "+ahead.text+" if c then a else b "+op.text+" d",
				"(bin k"+strconv.Itoa(ahead.k)+" (name e) (if (name c) (name a) (bin "+k+" (name b) (name d))))")
		}
	}
	wantExpr(t, "-if c then a else b * d", "(un k13 (if (name c) (name a) (bin k3 (name b) (name d))))")
	wantExpr(t, "if c then a else b[1:2]", "(if (name c) (name a) (index (name b) (num 1) (num 2)))")
	wantExpr(t, "if a then if b then c else d else e", "(if (name a) (if (name b) (name c) (name d)) (name e))")
	wantExpr(t, "if a then b else if c then d else e + f", "(if (name a) (name b) (if (name c) (name d) (bin k1 (name e) (name f))))")
	wantExpr(t, "if if a then b else c then d else e", "(if (if (name a) (name b) (name c)) (name d) (name e))")
	wantExpr(t, "min(if a then b else c, d)", "(bin k6 (if (name a) (name b) (name c)) (name d))")
	// A second comparison is no part of the first one, but one of the whole.
	wantExpr(t, "if a then b else c < d < e", "(bin k8 (if (name a) (name b) (bin k8 (name c) (name d))) (name e))")
	wantExprFault(t, "f == if a then b else c < d < e", api.ErrForm, 28)
}

// P2.1: numbers of operators between parts, of signs ahead, of min and max.
func TestParseOperatorNumbers(t *testing.T) {
	for _, op := range infix {
		e := exprOf(t, "x "+op.text+" 2")
		if e.Op != api.XBin || e.K != op.k || len(e.L) != 2 || e.L[0].Name != "x" || e.L[1].N != 2 {
			t.Errorf("x %s 2: %v", op.text, e)
		}
	}
	for text, want := range map[string][2]int{
		"-x": {api.XUn, api.KNeg}, "not x": {api.XUn, api.KNot}, "min(x, y)": {api.XBin, api.KMin}, "max(x, y)": {api.XBin, api.KMax},
		"x": {api.XName, 0}, "1": {api.XNum, 0}, "true": {api.XTruth, 0}, "cat(x, y)": {api.XCat, 0}, "pre(x, y)": {api.XPre, 0},
		"x[1:2]": {api.XIndex, 0}, "fill(x, 1)": {api.XFill, 0}, "with(x, 1, 2)": {api.XWith, 0}, "slice(x, 1, 2)": {api.XSlice, 0},
		"if x then y else z": {api.XIf, 0}, "map(not, x)": {api.XMap, api.KNot}, "fold(or, x, y)": {api.XFold, api.KOr}, "scan(less, x, y)": {api.XScan, api.KLess},
	} {
		if e := exprOf(t, text); e.Op != want[0] || e.K != want[1] {
			t.Errorf("%s: Op %d, K %d, want %v", text, e.Op, e.K, want)
		}
	}
}

// P2.1: tokens that cannot stand where they stand, in forms.
func TestParseWrongForms(t *testing.T) {
	for text, at := range map[string]int{
		"": 0, "+x": 0, "x +": 3, "x + * y": 4, "x y": 2, "x 1": 2, "(x": 2, "x)": 1, "()": 1, "(x,y)": 2, "x[1]": 3, "x[1:2": 5, "x[:2]": 2,
		"x[1:]": 4, "[1:2]": 0, "x[1:2:3]": 5, "x[1,2]": 3, "if x else y": 5, "if x then y": 11, "if x then y then z": 12, "then x": 0, "else": 0,
		"min x, y": 4, "min(x)": 5, "min(x, y, z)": 8, "min(add, x)": 4, "min()": 4, "map(add)": 7, "map(add, x, y, z)": 13, "map(add x)": 8,
		"map(add,)": 8, "fold(add, x)": 11, "fold(add, x, y, z)": 14, "scan(add, x)": 11, "scan(x, add, y)": 5, "fill(x)": 6, "fill(x, y, z)": 9,
		"fill(x, (2))": 8, "fill(x, y + true)": 12, "fill(2, if)": 8, "with(x, y)": 9, "with(x, y, z, z)": 12, "slice(x, 1)": 10, "slice(x, 1, 2, 3)": 13,
		"slice(1, x[0:0], 2)": 10, "cat(x)": 5, "cat(x, y, z)": 8, "pre(x)": 5, "pre(x, y, z)": 8, "pre": 3, "cat[x:y]": 3, "not": 3, "-": 1,
		"x not y": 2, "x not": 2, "int": 0, "bool(x)": 0, "var": 0, "node": 0, "true false": 5, "x = y": 2, "x, y": 1, "x: y": 1, "{x}": 0, "x -> y": 2, "x ^ y": 2,
	} {
		wantExprFault(t, text, api.ErrForm, at)
	}
}

// P2.1: tokens that cannot stand where they stand, in a node's head and lines.
func TestParseWrongNodes(t *testing.T) {
	for text, at := range map[string]int{
		"a": 0, "1": 0, "var a: int;": 0, "node 1": 5, "node node": 5, "node main<": -1, "node a<>()": 7, "node a<1>": 7, "node a<n,>": 9, "node a<n m>": 9,
		"node a{}": 6, "node a(b)": 8, "node a(b:)": 9, "node a(b: n)": 10, "node a(b: int c: int)": 14, "node a(b: int,)": 14, "node a(,)": 7, "node a(b: int^)": 14,
		"node a() (b: int)": 9, "node a() -> b": 12, "node a() -> ()": 13, "node a() -> (b: int) b": 21, "node a() -> (b: int);": 20,
		"node a() -> (b: int) { var }": 27, "node a() -> (b: int) { var c; }": 28, "node a() -> (b: int) { var c: int }": 34,
		"node a() -> (b: int) { var c: int, d: int; }": 33, "node a() -> (b: int) { } }": 25, "node a() -> (b: int) { };": 24, "node a() -> (b: int) { } b = 1;": 25,
		"node a() -> (b: int) { node": 23, "node a() -> (b: int) { b = 1 }": 29, "node a() -> (b: int) { var var c: int; }": 27, "node a()() -> (b: int) {}": 8,
		"node a()<n> -> (b: int) {}": 8, "node a() - > (b: int) {}": 9, "node a() -> (b: int) -> {}": 21, "node a() -> (b: int^n^m) {}": 21, "node a(b: int int) -> (c: int) {}": 14,
	} {
		if at < 0 {
			wantFault(t, text, api.ErrShort, len(text))
		} else {
			wantFault(t, text, api.ErrForm, at)
		}
	}
}

// P2.1: a text without tokens, or one that ends too early: at its length.
func TestParseShort(t *testing.T) {
	for _, src := range []string{"", " ", "\n\n", "# node a() -> (b: int) {}", "\t#\n"} {
		wantFault(t, src, api.ErrShort, len(src))
	}
	src := "node f<n>(a:int^2*n-1,b:bool)->(c:int^n,d:bool){var e:int;c,d=call g<n+1,3>(a,if b then 1 else d+2);e=map(min,a,slice(a,0,n))[-1:0];}"
	for end := range len(src) {
		if _, fault := Parse(src[:end] + " # \n"); fault.Code == api.ErrForm {
			continue // the end has cut a word in two, which is now a name
		}
		wantFault(t, src[:end], api.ErrShort, end)
		wantFault(t, src[:end]+" # \n", api.ErrShort, end+4)
	}
	parsed(t, src)
	wantFault(t, src+" node", api.ErrShort, len(src)+5)
}

// P2.1: token.Scan's fault is told ahead of any other one.
func TestParseScanFaults(t *testing.T) {
	for _, front := range []string{"", ") ", "node node ", exprFront + strings.Repeat("(", 100)} {
		wantFault(t, front+"@", api.ErrText, len(front))
		wantFault(t, front+"012", api.ErrNumber, len(front))
		wantFault(t, front+"1x @", api.ErrNumber, len(front))
		wantFault(t, front+"abcdefghijklm", api.ErrName, len(front))
		wantFault(t, front+strings.Repeat(" ", api.MaxText+1), api.ErrMany, api.MaxText)
	}
	full := exprFront + "1" + exprEnd
	parsed(t, full+strings.Repeat(" ", api.MaxText-len(full)))
	wantFault(t, full+strings.Repeat(" ", api.MaxText-len(full)+1), api.ErrMany, api.MaxText)
}
