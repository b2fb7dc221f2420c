package kinds

import (
	"testing"

	"loomwork/api"
)

// P5.1: which fault is told first: the names of a node, in order, then its
// equations, then what is not made; node by node; then main.
func TestOrderOfNodes(t *testing.T) {
	const text = "node f<n, k>(a: int^0 + n, b: bool^k) -> (c: int^n, d: bool^k) { var e: int^k; var h: int; var u: int; " +
		"c = a; d = b; e = fill(0, k); h = e[0 : 1]; u = h; } " + // equations 0 to 4
		"node g<m>(x: int^m) -> (z: int) { var w: int; var v: int; z = 0; w = z; v = 1; } " + // 5 to 7
		"node main() -> (o: int) { o = 2; }" // 8
	wantInOrder(t, text, []change{
		{"f<n, k>", "f<n, k, n>", api.ErrTwice, -2},
		{"+ n, b", "+ q, b", api.ErrNone, -2},
		{"a: int^0", "a: int^1000001", api.ErrRange, -2},
		{" b: bool", " a: bool", api.ErrTwice, -2},
		{"bool^k) ->", "bool^q) ->", api.ErrNone, -2},
		{"(c: int", "(b: int", api.ErrTwice, -2},
		{"int^n, d", "int^1000001*n, d", api.ErrRange, -2},
		{", d:", ", k:", api.ErrTwice, -2},
		{"bool^k) {", "bool^q) {", api.ErrNone, -2},
		{"var e:", "var c:", api.ErrTwice, -2},
		{"int^k;", "int^k - 1000001;", api.ErrRange, -2},
		{"var h", "var d", api.ErrTwice, -2},
		{"c = a;", "a = a;", api.ErrNone, 0},
		{"= a;", "= b;", api.ErrType, 0},
		{"d = b", "c = b", api.ErrTwice, 1},
		{"= b;", "= a;", api.ErrType, 1},
		{"e = fill", "b = fill", api.ErrNone, 2},
		{"(0, k)", "(0, 1000001)", api.ErrRange, 2},
		{"fill(0,", "fill(q,", api.ErrNone, 2},
		{"e[0", "e[true", api.ErrType, 3},
		{"u = h;", "", api.ErrNone, -2},
		{"g<", "f<", api.ErrTwice, -3},
		{"<m>", "<m, m>", api.ErrTwice, -3},
		{"x: int^m", "x: int^q", api.ErrNone, -3},
		{"(z: ", "(x: ", api.ErrTwice, -3},
		{"z = 0", "z = true", api.ErrType, 5},
		{"w = z", "z = z", api.ErrTwice, 6},
		{"v = 1;", "", api.ErrNone, -3},
		{"main()", "main<n>()", api.ErrMain, -1},
	})
	wantInOrder(t, text, []change{
		{"v = 1", "v = true", api.ErrType, 7},
		{"main()", "g()", api.ErrTwice, -4},
		{"(o: ", "(o: int, o: ", api.ErrTwice, -4},
		{"2;", "true;", api.ErrType, 8},
	})
	wantInOrder(t, text, []change{
		{"v = 1", "v = q", api.ErrNone, 7},
		{"o = 2;", "", api.ErrNone, -4},
		{"main()", "main<n>()", api.ErrMain, -1},
	})
}

// P5.1: which fault of a call is told first.
func TestOrderOfCalls(t *testing.T) {
	const text = "node f<n, k>(a: int^n, b: bool^1000*k) -> (c: int^1000*n, d: bool^k) { c = c; d = d; } " + // equations 0 and 1
		"node g<m>(x: int^2*m, y: bool^2000) -> (z: int^2000*m, w: bool^2) { var u: int; u = 0; z, w = call f<0 + 2*m, 2>(map(neg, x), y); }" + aMain
	wantInOrder(t, text, []change{
		{"; z,", "; x,", api.ErrNone, 3},
		{", w =", ", z =", api.ErrTwice, 3},
		{"call f", "call g", api.ErrNode, 3},
		{"*m, 2>", "*q, 2>", api.ErrNone, 3},
		{"<0 +", "<1000001 +", api.ErrRange, 3},
		{" 2>", " q>", api.ErrNone, 3},
		{"(neg", "(add", api.ErrCount, 3},
		{"g, x)", "g, y)", api.ErrType, 3},
		{"), y", "), q", api.ErrNone, 3},
		{">(map", ", 0>(map", api.ErrCount, 3},
		{"a: int^n", "a: int^1000000*n", api.ErrRange, 3},
		{"x: int^2", "x: int^3", api.ErrType, 3},
		{"b: bool^1000", "b: bool^1000000", api.ErrRange, 3},
		{"y: bool^2000", "y: bool^2001", api.ErrType, 3},
		{"d: bool^k", "d: bool^1000000*k", api.ErrRange, 3},
		{"z: int^2000", "z: int^2001", api.ErrType, 3},
	})
	wantInOrder(t, text, []change{
		{"y: bool^2000", "y: bool", api.ErrType, 3},
		{"c: int^1000", "c: int^1000000", api.ErrRange, 3},
		{"w: bool^2)", "w: bool^3)", api.ErrType, 3},
		{"-> (o: int)", "-> (o: bool)", api.ErrType, 4},
	})
	wantInOrder(t, text, []change{
		{"), y)", "), y, q)", api.ErrNone, 3},
		{" 2>", " 2, 2>", api.ErrCount, 3},
		{"a: int^n", "a: int^1000000*n", api.ErrRange, 3},
	})
	wantInOrder(t, text, []change{
		{"), y)", "), y, y)", api.ErrCount, 3},
		{"a: int^n", "a: int^1000000*n", api.ErrRange, 3},
		{"z: int^2000", "z: int^2001", api.ErrType, 3},
	})
	wantWrong(t, "node f<n>() -> (c: int, d: int^2*n) { c = 0; d = d; } node main() -> (o: int) { o = call f<1000000>(); }", api.ErrCount, 2)
	wantWrong(t, "node f<n>() -> (c: int, d: int^2*n) { c = 0; d = d; } node main() -> (o: bool, p: int) { o, p = call f<1000000>(); }", api.ErrRange, 2)
}

// P5.1: which fault of an expression is told first: its sizes', its parts', its
// own.
func TestOrderOfExpressions(t *testing.T) {
	const text = "node f<n, m>(a: int^n, b: int^2, c: bool) -> (y: int^m + 2) { " +
		"y = cat(slice(map(neg, a), 0 + n, 0 + m), if c and true then map(add, b, fill(1, 2)) else pre(scan(mul, 3, b), b)); }" + aMain
	wantInOrder(t, text, []change{
		{"{ y", "{ a", api.ErrNone, 0},
		{"0 + n", "0 + q", api.ErrNone, 0},
		{", 0 + n", ", 1000001 + n", api.ErrRange, 0},
		{"0 + m)", "0 + q)", api.ErrNone, 0},
		{" 0 + m)", " 1000001 + m)", api.ErrRange, 0},
		{"neg, a", "neg, q", api.ErrNone, 0},
		{"(neg", "(not", api.ErrType, 0},
		{"if c", "if q", api.ErrNone, 0},
		{"and true", "and 1", api.ErrType, 0},
		{"add, b", "add, q", api.ErrNone, 0},
		{"(1, 2)", "(1, 1000001)", api.ErrRange, 0},
		{"l(1", "l(q", api.ErrNone, 0},
		{"(add", "(not", api.ErrCount, 0},
		{"3, b", "3, q", api.ErrNone, 0},
		{"(mul", "(less", api.ErrType, 0},
		{", b))", ", q))", api.ErrNone, 0},
		{"m + 2)", "m + 3)", api.ErrType, 0},
	})
	whole := func(e string) string {
		return sized("a: int^n, b: bool, p: int^1000000", "y: int", "y = "+e+";")
	}
	wantWrong(t, whole("b + q"), api.ErrNone, 0)
	wantWrong(t, whole("-(b + a[q : 0])"), api.ErrNone, 0)
	wantWrong(t, whole("map(less, b, q)"), api.ErrNone, 0)
	wantWrong(t, whole("map(neg, b, a)"), api.ErrCount, 0)
	wantWrong(t, whole("map(add, b)"), api.ErrCount, 0)
	wantWrong(t, whole("fold(less, b, slice(a, 1, q))"), api.ErrNone, 0)
	wantWrong(t, whole("if 1 then b else cat(p, fill(0, 1000001))"), api.ErrRange, 0)
	wantWrong(t, whole("if 1 + b then q else a"), api.ErrType, 0)
	wantWrong(t, whole("b[q : map(neg, a, a)]"), api.ErrNone, 0)
	wantWrong(t, whole("b[map(neg, a, a) : q]"), api.ErrCount, 0)
	wantWrong(t, whole("with(q, b, 1000000 + true)"), api.ErrNone, 0)
	wantWrong(t, whole("pre(-b, q)"), api.ErrType, 0)
	wantWrong(t, whole("fill(q, 1000001)"), api.ErrRange, 0)
	wantWrong(t, whole("fill(fill(q, 1), 1000001)"), api.ErrRange, 0)
	wantWrong(t, whole("fill(fill(q, 1000001), k)"), api.ErrNone, 0)
}
