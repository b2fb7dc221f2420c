package inst

import (
	"testing"

	"loomwork/api"
)

// P6: a node that is called is unrolled: its inputs are the variables of the
// expressions, its outputs those of the names.
func TestCall(t *testing.T) {
	const f = "node f(a: int, b: int) -> (c: int, d: bool) { c = a - b; d = b < a; } "
	wantMade(t, f+"node main(x: int, y: int) -> (u: bool, v: int) { v, u = call f(y, x); }", 2, 2, "i i b i",
		rule(api.QBin, api.KSub, 3, 1, 0), rule(api.QBin, api.KLess, 2, 0, 1))
	wantMade(t, f+"node main(x: int) -> (u: bool, v: int) { v, u = call f(x, x); }", 1, 2, "i b i",
		rule(api.QBin, api.KSub, 2, 0, 0), rule(api.QBin, api.KLess, 1, 0, 0))
	wantMade(t, f+"node main(x: int) -> (v: int) { var u: bool; v, u = call f(v, v); }", 1, 1, "i i b",
		rule(api.QBin, api.KSub, 1, 1, 1), rule(api.QBin, api.KLess, 2, 1, 1))
}

// P6: expressions that are no names become new variables, in order, ahead of what
// the node has.
func TestCallOfExpressions(t *testing.T) {
	const f = "node f(a: int, b: int^2, c: int) -> (d: int) { var e: int; var h: int^2; e = a * c; h = b; d = e + 7; } "
	wantMade(t, f+"node main(x: int) -> (y: int) { var z: int; y = call f(x + 1, fill(-x, 2), x); z = y; }", 1, 1,
		"i i i i i i i2 i i2 i",
		number(3, 1), rule(api.QBin, api.KAdd, 4, 0, 3),
		rule(api.QUn, api.KNeg, 5, 0), rule(api.QFill, 0, 6, 5),
		rule(api.QBin, api.KMul, 7, 4, 0), rule(api.QCopy, 0, 8, 6),
		number(9, 7), rule(api.QBin, api.KAdd, 1, 7, 9),
		rule(api.QCopy, 0, 2, 1))
}

// P6: names of a node that is called are its own, and so are its sizes'.
func TestCallHasItsOwnNames(t *testing.T) {
	wantMade(t, "node f<n>(y: int^n) -> (x: int^n) { var v: int^n + 1; x = y; v = cat(y, slice(x, n - 1, 1)); } "+
		"node g<m, n>(x: int^2*m) -> (y: int^2*m) { var v: int^n; y = call f<2*m>(x); v = fill(1, n); } "+
		"node main(x: int^6) -> (y: int^6) { var v: bool; y = call g<3, 2>(x); v = true; }", 1, 1,
		"i6 i6 b i2 i7 i1 i",
		rule(api.QCopy, 0, 1, 0), slice(5, 5, 1), rule(api.QCat, 0, 4, 0, 5),
		number(6, 1), rule(api.QFill, 0, 3, 6),
		number(2, 1))
}

// P6: sizes of a call, reckoned with the sizes of who calls, are numbers within
// the node.
func TestCallWithSizes(t *testing.T) {
	wantMade(t, "node f<n, m, k>(a: int^n + m) -> (b: int^m) { var c: bool^k + 1; b = slice(a, n, m); c = fill(true, 1 + k); } "+
		"node main(x: int^7) -> (y: int^4) { y = call f<3, 4, 0>(x); }", 1, 1,
		"i7 i4 b1 b",
		slice(1, 3, 0), number(3, 1), rule(api.QFill, 0, 2, 3))
	wantMade(t, "node f<n>(a: int^n) -> (b: int^n + 1) { b = cat(a, fill(0, 1)); } "+
		"node g<n>(a: int^2*n - 1) -> (b: int^1 + 2*n) { var m: int^2*n; m = call f<2*n - 1>(a); b = call f<n + n>(m); } "+
		"node main(x: int^3) -> (y: int^5) { y = call g<2>(x); }", 1, 1,
		"i3 i5 i4 i i1 i i1",
		number(3, 0), rule(api.QFill, 0, 4, 3), rule(api.QCat, 0, 2, 0, 4),
		number(5, 0), rule(api.QFill, 0, 6, 5), rule(api.QCat, 0, 1, 2, 6))
}

// P6: a node that is called twice is unrolled twice, with locals of its own each
// time, and where its call stands.
func TestCallTwice(t *testing.T) {
	wantMade(t, "node f<n>(a: int) -> (b: int) { var v: int^n; v = fill(a, n); b = fold(add, a, v); } "+
		"node main(x: int) -> (y: int, z: int) { var w: int; z = call f<4>(w); w = x * x; y = call f<3>(x); }", 1, 2,
		"i i i i i4 i3",
		rule(api.QFill, 0, 4, 3), rule(api.QFold, api.KAdd, 2, 3, 4),
		rule(api.QBin, api.KMul, 3, 0, 0),
		rule(api.QFill, 0, 5, 0), rule(api.QFold, api.KAdd, 1, 0, 5))
}

// P6: a node that calls others, that call others.
func TestCallsWithinCalls(t *testing.T) {
	wantMade(t, "node f(a: int) -> (b: int) { b = a + 1; } "+
		"node g(a: int) -> (b: int) { var c: int; c = call f(a); b = call f(-c); } "+
		"node h(a: int) -> (b: int, c: int) { c = call f(a); b = call g(c); } "+
		"node main(x: int) -> (y: int, z: int) { y, z = call h(x); }", 1, 2,
		"i i i i i i i i",
		number(3, 1), rule(api.QBin, api.KAdd, 2, 0, 3), // c of h
		number(5, 1), rule(api.QBin, api.KAdd, 4, 2, 5), // c of g
		rule(api.QUn, api.KNeg, 6, 4),
		number(7, 1), rule(api.QBin, api.KAdd, 1, 6, 7))
}

// P6: main is the node of that name, wherever it stands; nodes that nobody calls
// come to nothing, even if their sizes would have faults.
func TestMainAmongOthers(t *testing.T) {
	const main = "node main(x: int) -> (y: int) { y = call f(x); } "
	const f = "node f(a: int) -> (b: int) { b = -a; } "
	const other = "node g<n>(a: int^0 - 1) -> (b: int^n) { var v: int^301; b = fill(0, n); v = fill(a[1000000 : 2], 301); } "
	for _, text := range []string{f + main, f + main + other, other + f + main, f + other + main + "node h() -> (b: int) { b = call main(0); } "} {
		wantMade(t, text, 1, 1, "i i", rule(api.QUn, api.KNeg, 1, 0))
	}
	wantMade(t, "node mains(a: int) -> (b: int) { b = -a; } node main() -> (o: bool) { o = false; } node mai() -> (o: int) { o = 3; }", 0, 1, "b", number(0, 0))
}
