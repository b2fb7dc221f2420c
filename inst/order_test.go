package inst

import (
	"strings"
	"testing"

	"loomwork/api"
	"loomwork/kinds"
)

// P6: kinds.Check's fault is handed on as it is, and render.Check's, too.
func TestFaultsOfKinds(t *testing.T) {
	for _, c := range []struct {
		text     string
		code, at int
	}{
		{"node f(a: int) -> (b: int) { b = a; } node f(a: int) -> (b: int) { b = a; } node main() -> (y: int) { y = 0; }", api.ErrTwice, -3},
		{"node main(x: int, x: int) -> (y: int) { y = 0; }", api.ErrTwice, -2},
		{"node main(x: int) -> (y: int) { x = 0; }", api.ErrNone, 0},
		{"node main(x: int) -> (y: int) { y = 0; y = 1; }", api.ErrTwice, 1},
		{"node main(x: int^n) -> (y: int) { y = 0; }", api.ErrNone, -2},
		{"node main(x: int^1000001) -> (y: int) { y = 0; }", api.ErrRange, -2},
		{"node main(x: bool) -> (y: int) { y = x; }", api.ErrType, 0},
		{"node main(x: int^3) -> (y: int^4) { y = x; }", api.ErrType, 0},
		{"node main(x: int) -> (y: int) { y = call main(x); }", api.ErrNode, 0},
		{"node f(a: int) -> (b: int) { b = a; } node main(x: int) -> (y: int) { y = call f(x, x); }", api.ErrCount, 1},
		{"node main(x: int^3) -> (y: int^3) { y = map(neg, x, x); }", api.ErrCount, 0},
		{"node main(x: int) -> (y: int, z: int) { y = 0; }", api.ErrNone, -2},
		{"node main<n>(x: int) -> (y: int) { y = 0; }", api.ErrMain, -1},
		{"node mains(x: int) -> (y: int) { y = 0; }", api.ErrMain, -1},
	} {
		wantWrong(t, c.text, c.code, c.at)
	}
	wantFault(t, "no nodes", api.Program{}, api.ErrNone, -1)
	p := parsed(t, "node main(x: int) -> (y: int) { y = x; }")
	p.Nodes[0].Name = "Main"
	wantFault(t, "no name", p, api.ErrName, -2)
	p = parsed(t, "node main(x: int) -> (y: int) { y = x; }")
	p.Nodes[0].Eqs[0].E[0].K = api.KAdd
	wantFault(t, "an XName with an operator", p, api.ErrForm, 0)
	p = parsed(t, "node main(x: int) -> (y: int) { y = x; }")
	p.Nodes[0].Out[0].T.Elem = 'x'
	wantFault(t, "no type", p, api.ErrType, -2)
	if got, want := kinds.Check(p), (api.Fault{Code: api.ErrType, At: -2}); got != want {
		t.Errorf("kinds.Check: fault %v, want %v", got, want)
	}
}

// P6: kinds.Check's faults are told ahead; then the first that comes, main being
// unrolled, and each node where it is called.
func TestOrder(t *testing.T) {
	text := "node large(x: int) -> (y: int) { " + padding(420) + "y = x; } " + // equations 0 to 14
		"node small(x: int) -> (y: int) { y = x; } " + // 15
		"node f<n, k>(a: int^n) -> (b: int) { var u: int^4; var v: int^5; var c: int^n; var i: int; " +
		"c = slice(cat(a, a), 0 + n, n); u = u; b = fold(add, 0, fill(a[0 : 1], 6)); v = v; i = call small(b); } " + // 16 to 20
		"node g<m, k>(a: int^m) -> (b: int) { var w: bool^7; var e: bool^14; " +
		"b = call f<m, 8>(a); w = pre(w, cat(fill(true, 3), slice(w, 3, 4))); e = e; } " + // 21 to 23
		"node main(x: int^5, q: int^9) -> (z: int, s: int^2, l: int) { var h: int^11; var d: int; var r: int; " +
		"h = h; l = call small(l); z = call g<3, 12>(map(neg, slice(x, 1, 3))); s = slice(q, 0 + 7, 2); " + // 24 to 27
		"d = call small(z); r = fold(add, 0, fill(0, 13)); } " + // 28 and 29
		"node last() -> (o: int) { o = 0; }" // 30
	wantInOrder(t, text, []change{
		{"o = 0", "o = true", api.ErrType, 30},
		{"q: int^9", "q: int^301", api.ErrSize, -6},
		{"h: int^11", "h: int^0", api.ErrSize, -6},
		{"l = call small", "l = call large", api.ErrMany, -1},
		{"12>", "301>", api.ErrSize, 26},
		{"slice(x, 1", "slice(x, 3", api.ErrSize, 26},
		{"e: bool^14", "e: bool^0", api.ErrSize, -5},
		{" 8>", " 301>", api.ErrSize, 21},
		{"u: int^4", "u: int^0", api.ErrSize, -4},
		{"v: int^5", "v: int^301", api.ErrSize, -4},
		{"a), 0 + n", "a), 1 + n", api.ErrSize, 16},
		{"1], 6)", "1], 0)", api.ErrSize, 18},
		{"i = call small", "i = call large", api.ErrMany, -1},
		{"slice(w, 3", "slice(w, 4", api.ErrSize, 22},
		{"(q, 0 +", "(q, 1 +", api.ErrSize, 27},
		{"d = call small", "d = call large", api.ErrMany, -1},
		{"(0, 13)", "(0, 301)", api.ErrSize, 29},
	})
}

// P6: the place is that of the node and of the equation in which the size
// stands, not of who calls; and of the first call of which it is so.
func TestPlaces(t *testing.T) {
	const text = "node f<n>() -> (y: int) { var v: int; v = 0; y = fold(add, v, fill(1, 4 - n)); } " + // equations 0 and 1
		"node g<n>() -> (y: int) { var v: int^6 - n; v = v; y = call f<n>(); } " + // 2 and 3
		"node main() -> (y: int, z: int) { y = call A; z = call B; }" // 4 and 5
	for _, c := range []struct {
		first, second string
		code, at      int
	}{
		{"g<3>()", "f<3>()", 0, 0},
		{"g<4>()", "f<3>()", api.ErrSize, 1},
		{"g<3>()", "f<4>()", api.ErrSize, 1},
		{"g<6>()", "f<3>()", api.ErrSize, -3},
		{"f<4>()", "g<6>()", api.ErrSize, 1},
		{"g<6>()", "f<4>()", api.ErrSize, -3},
		{"f<301>()", "g<6>()", api.ErrSize, 4},
		{"f<3>()", "g<0 - 1>()", api.ErrSize, 5},
		{"f<4>()", "g<0 - 1>()", api.ErrSize, 1},
	} {
		wantWrong(t, strings.NewReplacer("A", c.first, "B", c.second).Replace(text), c.code, c.at)
	}
}
