package render

import (
	"strings"
	"testing"

	"loomwork/api"
)

var a, b, c, d, i = name("a"), name("b"), name("c"), name("d"), name("i")

func neg(e api.Expr) api.Expr { return op(api.XUn, api.KNeg, e) }

func not(e api.Expr) api.Expr { return op(api.XUn, api.KNot, e) }

func bin(k int, left, right api.Expr) api.Expr { return op(api.XBin, k, left, right) }

func choice(truth, yes, no api.Expr) api.Expr { return op(api.XIf, 0, truth, yes, no) }

func index(array, at, other api.Expr) api.Expr { return op(api.XIndex, 0, array, at, other) }

// P3.2: the lines of a node, as the chapter has them.
func TestPrintChapterNode(t *testing.T) {
	f := api.Node{
		Name:  "f",
		Sizes: []string{"n", "m"},
		In:    []api.Decl{{Name: "a", T: api.Type{Elem: 'i', N: size("n")}}, {Name: "c", T: api.Type{Elem: 'b'}}},
		Out:   []api.Decl{{Name: "y", T: api.Type{Elem: 'i', N: api.Size{{N: 2, Name: "n"}, {N: -1}}}}},
		Local: []api.Decl{{Name: "b", T: api.Type{Elem: 'b'}}},
		Eqs: []api.Eq{
			{Names: []string{"y", "z"}, Node: "g", S: []api.Size{{{N: 1, Name: "n"}, {N: 1}}, {{N: 3}}}, E: []api.Expr{a, c}},
			{Names: []string{"b"}, E: []api.Expr{choice(c, bin(api.KLess, index(a, num(1), num(0)), num(2)), truth(0))}},
		},
	}
	want := "node f<n, m>(a: int^n, c: bool) -> (y: int^2*n - 1) {\n" +
		"\tvar b: bool;\n" +
		"\ty, z = call g<n + 1, 3>(a, c);\n" +
		"\tb = if c then a[1 : 0] < 2 else false;\n" +
		"}\n"
	wantText(t, program(f), want)
	wantText(t, program(f, f), want+want)
}

// P3.2: the chapter's examples.
func TestPrintExamples(t *testing.T) {
	wantExpr(t, neg(bin(api.KAdd, a, b)), "-(a + b)")
	wantExpr(t, index(neg(a), i, d), "(-a)[i : d]")
	wantExpr(t, bin(api.KSub, a, bin(api.KSub, b, c)), "a - (b - c)")
	wantExpr(t, fill(num(0), api.Size{{N: -1, Name: "n"}, {N: 3}}), "fill(0, -n + 3)")
}

// P3.2: nodes with few and with many of each thing.
func TestPrintNodes(t *testing.T) {
	wantText(t, program(node()), "node a() -> (b: int) {\n}\n")
	wantText(t, program(node(), node(plain(a)), node()), "node a() -> (b: int) {\n}\nnode a() -> (b: int) {\n\tb = a;\n}\nnode a() -> (b: int) {\n}\n")
	n := api.Node{Name: "f", Sizes: []string{"n"}, Out: []api.Decl{decl("x"), {Name: "y", T: api.Type{Elem: 'b', N: api.Size{{N: 4}}}}, decl("z")}}
	wantText(t, program(n), "node f<n>() -> (x: int, y: bool^4, z: int) {\n}\n")
	n.Sizes, n.In, n.Local = []string{"n", "m", "k"}, n.Out, n.Out
	wantText(t, program(n), "node f<n, m, k>(x: int, y: bool^4, z: int) -> (x: int, y: bool^4, z: int) {\n\tvar x: int;\n\tvar y: bool^4;\n\tvar z: int;\n}\n")
	n = node(plain(num(1)), api.Eq{Names: []string{"x"}, E: []api.Expr{truth(1)}})
	n.Local = []api.Decl{decl("x")}
	wantText(t, program(n), "node a() -> (b: int) {\n\tvar x: int;\n\tb = 1;\n\tx = true;\n}\n")
	for text, q := range map[string]api.Eq{
		"x = call g()":                  {Names: []string{"x"}, Node: "g"},
		"x = call g(a)":                 {Names: []string{"x"}, Node: "g", E: []api.Expr{a}},
		"x, y, z = call g(a, b + c, d)": {Names: []string{"x", "y", "z"}, Node: "g", E: []api.Expr{a, bin(api.KAdd, b, c), d}},
		"x = call g<n>()":               {Names: []string{"x"}, Node: "g", S: []api.Size{size("n")}},
		"x = call g<-n, 0, 2*n - m>(a)": {Names: []string{"x"}, Node: "g", S: []api.Size{{{N: -1, Name: "n"}}, {{}}, {{N: 2, Name: "n"}, {N: -1, Name: "m"}}}, E: []api.Expr{a}},
		"x, y = call g(if a then b else c, if b then c else d)": {Names: []string{"x", "y"}, Node: "g", E: []api.Expr{choice(a, b, c), choice(b, c, d)}},
	} {
		wantText(t, program(node(q)), "node a() -> (b: int) {\n\t"+text+";\n}\n")
	}
}

// P3.2: lists without elements are nil or empty, and say the same.
func TestPrintEmptyLists(t *testing.T) {
	bare := api.Eq{Names: []string{"b"}, Node: "a"}
	empty := api.Eq{Names: []string{"b"}, Node: "a", S: []api.Size{}, E: []api.Expr{}}
	leaf := api.Expr{Op: api.XNum, S: []api.Size{}, L: []api.Expr{}}
	x := api.Node{Name: "a", Out: []api.Decl{decl("b")}, Eqs: []api.Eq{bare, plain(num(0))}}
	y := api.Node{Name: "a", Sizes: []string{}, In: []api.Decl{}, Out: []api.Decl{{Name: "b", T: api.Type{Elem: 'i', N: api.Size{}}}}, Local: []api.Decl{}, Eqs: []api.Eq{empty, {Names: []string{"b"}, S: []api.Size{}, E: []api.Expr{leaf}}}}
	want := "node a() -> (b: int) {\n\tb = call a();\n\tb = 0;\n}\n"
	wantText(t, program(x), want)
	wantText(t, program(y), want)
	x.Eqs, y.Eqs = nil, []api.Eq{}
	wantText(t, program(x, y), strings.Repeat("node a() -> (b: int) {\n}\n", 2))
}

// P3.2: every kind of part.
func TestPrintEveryKind(t *testing.T) {
	for want, e := range map[string]api.Expr{
		"0": num(0), "7": num(7), "999999999999999999": num(api.MaxNum - 1),
		"true": truth(1), "false": truth(0), longName: name(longName),
		"-a": neg(a), "not a": not(a), "-1": neg(num(1)), "not true": not(truth(1)),
		"a + b": bin(api.KAdd, a, b), "a - b": bin(api.KSub, a, b), "a * b": bin(api.KMul, a, b), "a / b": bin(api.KDiv, a, b), "a % b": bin(api.KMod, a, b),
		"a < b": bin(api.KLess, a, b), "a == b": bin(api.KEq, a, b), "a and b": bin(api.KAnd, a, b), "a or b": bin(api.KOr, a, b), "a xor b": bin(api.KXor, a, b),
		"min(a, b)": bin(api.KMin, a, b), "max(a, b)": bin(api.KMax, a, b),
		"if a then b else c": choice(a, b, c), "a[b : c]": index(a, b, c), "with(a, b, c)": op(api.XWith, 0, a, b, c),
		"cat(a, b)": op(api.XCat, 0, a, b), "pre(a, b)": op(api.XPre, 0, a, b),
		"fill(a, n)": fill(a, size("n")), "slice(a, k, 2)": slice(a, size("k"), api.Size{{N: 2}}),
		"slice(a, n - 1, -n + 3)": slice(a, api.Size{{N: 1, Name: "n"}, {N: -1}}, api.Size{{N: -1, Name: "n"}, {N: 3}}),
	} {
		wantExpr(t, e, want)
	}
	words := strings.Fields("add sub mul div mod min max less eq and or xor neg not")
	for j, word := range words {
		k := api.KAdd + j
		wantExpr(t, op(api.XMap, k, a), "map("+word+", a)")
		wantExpr(t, op(api.XMap, k, a, b), "map("+word+", a, b)")
		wantExpr(t, op(api.XFold, k, a, b), "fold("+word+", a, b)")
		wantExpr(t, op(api.XScan, k, a, b), "scan("+word+", a, b)")
	}
}

// P3.2: brackets, and none where nothing else would be said.
func TestPrintBrackets(t *testing.T) {
	less := bin(api.KLess, a, b)
	for want, e := range map[string]api.Expr{
		"a - b - c": bin(api.KSub, bin(api.KSub, a, b), c), "a + (b + c)": bin(api.KAdd, a, bin(api.KAdd, b, c)), "a - b + c": bin(api.KAdd, bin(api.KSub, a, b), c),
		"a * b / c": bin(api.KDiv, bin(api.KMul, a, b), c), "a * (b * c)": bin(api.KMul, a, bin(api.KMul, b, c)), "a % (b / c)": bin(api.KMod, a, bin(api.KDiv, b, c)),
		"a + b * c": bin(api.KAdd, a, bin(api.KMul, b, c)), "(a + b) * c": bin(api.KMul, bin(api.KAdd, a, b), c), "a * (b - c)": bin(api.KMul, a, bin(api.KSub, b, c)),
		"(a < b) < c": bin(api.KLess, less, c), "c == (a < b)": bin(api.KEq, c, less), "(a < b) == (a < b)": bin(api.KEq, less, less),
		"a + b < c * d": bin(api.KLess, bin(api.KAdd, a, b), bin(api.KMul, c, d)), "(a < b) + c": bin(api.KAdd, less, c), "c - (a < b)": bin(api.KSub, c, less),
		"a and b and c": bin(api.KAnd, bin(api.KAnd, a, b), c), "a and (b and c)": bin(api.KAnd, a, bin(api.KAnd, b, c)), "a < b and a < b": bin(api.KAnd, less, less),
		"a or b xor c": bin(api.KXor, bin(api.KOr, a, b), c), "a or (b xor c)": bin(api.KOr, a, bin(api.KXor, b, c)), "a xor b and c": bin(api.KXor, a, bin(api.KAnd, b, c)),
		"(a or b) and c": bin(api.KAnd, bin(api.KOr, a, b), c), "a and (b xor c)": bin(api.KAnd, a, bin(api.KXor, b, c)), "(a and b) < c": bin(api.KLess, bin(api.KAnd, a, b), c),
		"--a": neg(neg(a)), "not not a": not(not(a)), "-not a": neg(not(a)), "not -a": not(neg(a)), "-(a * b)": neg(bin(api.KMul, a, b)), "-a * b": bin(api.KMul, neg(a), b),
		"a - -b": bin(api.KSub, a, neg(b)), "a * -b": bin(api.KMul, a, neg(b)), "not (a < b)": not(less), "not a < b": bin(api.KLess, not(a), b), "a < not b": bin(api.KLess, a, not(b)),
		"not (a and b) or c": bin(api.KOr, not(bin(api.KAnd, a, b)), c), "-min(a, b)": neg(bin(api.KMin, a, b)), "max(a + b, -c) * d": bin(api.KMul, bin(api.KMax, bin(api.KAdd, a, b), neg(c)), d),
		"-a[i : d]": neg(index(a, i, d)), "(not a)[i : d]": index(not(a), i, d), "(a + b)[i : d]": index(bin(api.KAdd, a, b), i, d), "a + b[i : d]": bin(api.KAdd, a, index(b, i, d)),
		"a[i : d][b : c]": index(index(a, i, d), b, c), "a[b or c : c or d]": index(a, bin(api.KOr, b, c), bin(api.KOr, c, d)), "a[-b : -c]": index(a, neg(b), neg(c)),
		"1[i : d]": index(num(1), i, d), "true[i : d]": index(truth(1), i, d), "min(a, b)[i : d]": index(bin(api.KMin, a, b), i, d), "cat(a, b)[i : d]": index(op(api.XCat, 0, a, b), i, d),
		"map(add, a or b, -c)": op(api.XMap, api.KAdd, bin(api.KOr, a, b), neg(c)), "fill(a < b, n)": fill(less, size("n")), "if a < b then a or c else b xor c": choice(less, bin(api.KOr, a, c), bin(api.KXor, b, c)),
	} {
		wantExpr(t, e, want)
	}
}

// P3.2: an "if" in every place that a part may have.
func TestPrintIf(t *testing.T) {
	f := choice(a, b, c)
	const bare, held = "if a then b else c", "(if a then b else c)"
	wantExpr(t, f, bare)
	wantExpr(t, neg(f), "-"+held)
	wantExpr(t, not(f), "not "+held)
	signs := map[int]string{api.KAdd: "+", api.KSub: "-", api.KMul: "*", api.KDiv: "/", api.KMod: "%", api.KLess: "<", api.KEq: "==", api.KAnd: "and", api.KOr: "or", api.KXor: "xor"}
	for k, sign := range signs {
		wantExpr(t, bin(k, f, d), held+" "+sign+" d")
		wantExpr(t, bin(k, d, f), "d "+sign+" "+held)
		wantExpr(t, bin(k, f, f), held+" "+sign+" "+held)
		wantExpr(t, choice(a, b, bin(k, c, d)), "if a then b else c "+sign+" d")
	}
	wantExpr(t, bin(api.KMin, f, f), "min("+bare+", "+bare+")")
	wantExpr(t, bin(api.KMax, f, f), "max("+bare+", "+bare+")")
	wantExpr(t, choice(f, f, f), "if "+bare+" then "+bare+" else "+bare)
	wantExpr(t, index(f, f, f), held+"["+bare+" : "+bare+"]")
	wantExpr(t, op(api.XMap, api.KNeg, f), "map(neg, "+bare+")")
	wantExpr(t, op(api.XMap, api.KAdd, f, f), "map(add, "+bare+", "+bare+")")
	wantExpr(t, op(api.XFold, api.KMin, f, f), "fold(min, "+bare+", "+bare+")")
	wantExpr(t, op(api.XScan, api.KOr, f, f), "scan(or, "+bare+", "+bare+")")
	wantExpr(t, fill(f, size("n")), "fill("+bare+", n)")
	wantExpr(t, op(api.XWith, 0, f, f, f), "with("+bare+", "+bare+", "+bare+")")
	wantExpr(t, slice(f, size("n"), size("m")), "slice("+bare+", n, m)")
	wantExpr(t, op(api.XCat, 0, f, f), "cat("+bare+", "+bare+")")
	wantExpr(t, op(api.XPre, 0, f, f), "pre("+bare+", "+bare+")")
	wantText(t, program(node(api.Eq{Names: []string{"b"}, Node: "g", E: []api.Expr{f, f}})), "node a() -> (b: int) {\n\tb = call g("+bare+", "+bare+");\n}\n")
}

// P3.2: sizes with their signs, in every place that they have.
func TestPrintSizes(t *testing.T) {
	const far = "999999999999999999"
	sizes := map[string]api.Size{
		"0": {{}}, "1": {{N: 1}}, "-1": {{N: -1}}, "12": {{N: 12}}, far: {{N: api.MaxNum - 1}}, "-" + far: {{N: 1 - api.MaxNum}},
		"n": size("n"), "-n": {{N: -1, Name: "n"}}, "0*n": {{Name: "n"}}, "2*n": {{N: 2, Name: "n"}}, "-2*n": {{N: -2, Name: "n"}},
		far + "*" + longName: {{N: api.MaxNum - 1, Name: longName}}, "-" + far + "*n": {{N: 1 - api.MaxNum, Name: "n"}},
		"n + m": size("n", "m"), "m + n": size("m", "n"), "n + n": size("n", "n"), "n + 0": {{N: 1, Name: "n"}, {}}, "0 + n": {{}, {N: 1, Name: "n"}}, "0 + 0*n": {{}, {Name: "n"}},
		"n - m": {{N: 1, Name: "n"}, {N: -1, Name: "m"}}, "-n - m - 1": {{N: -1, Name: "n"}, {N: -1, Name: "m"}, {N: -1}}, "-n + 3": {{N: -1, Name: "n"}, {N: 3}},
		"3 - 2*n + 1 - " + far + " + 4*m": {{N: 3}, {N: -2, Name: "n"}, {N: 1}, {N: 1 - api.MaxNum}, {N: 4, Name: "m"}},
	}
	for want, s := range sizes {
		wantExpr(t, fill(a, s), "fill(a, "+want+")")
		wantExpr(t, slice(a, s, size("k")), "slice(a, "+want+", k)")
		wantExpr(t, slice(a, size("k"), s), "slice(a, k, "+want+")")
		wantText(t, program(node(api.Eq{Names: []string{"b"}, Node: "g", S: []api.Size{s, s}})), "node a() -> (b: int) {\n\tb = call g<"+want+", "+want+">();\n}\n")
		ofDecl := []api.Decl{{Name: "b", T: api.Type{Elem: 'b', N: s}}}
		wantText(t, program(api.Node{Name: "a", In: ofDecl, Out: ofDecl, Local: ofDecl}), "node a(b: bool^"+want+") -> (b: bool^"+want+") {\n\tvar b: bool^"+want+";\n}\n")
	}
}

// P3.2: places in the text that a program came from leave nothing.
func TestPrintWithoutPlaces(t *testing.T) {
	p := one(num(1))
	p.Nodes[0].At, p.Nodes[0].Eqs[0].At = -7, 1<<40
	wantText(t, p, oneFront+"1"+oneEnd)
}
