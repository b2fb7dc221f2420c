package kinds

import (
	"fmt"
	"strings"
	"testing"

	"loomwork/api"
)

// P5.1: what render.Check says, with its own place.
func TestCheckOfRender(t *testing.T) {
	wantFault(t, "no nodes", api.Program{}, api.ErrNone, -1)
	wantFault(t, "too many nodes", api.Program{Nodes: make([]api.Node, api.MaxNodes+1)}, api.ErrMany, -1)
	text := "node f<n>(a: int^n) -> (b: int^n) { b = a; }" + aMain
	spoilt := func(spoil func(nodes []api.Node)) api.Program {
		p := parsed(t, text)
		spoil(p.Nodes)
		return p
	}
	wantFault(t, "a node's name", spoilt(func(n []api.Node) { n[1].Name = "if" }), api.ErrName, -3)
	wantFault(t, "no outputs", spoilt(func(n []api.Node) { n[0].Out = nil }), api.ErrForm, -2)
	wantFault(t, "Elem", spoilt(func(n []api.Node) { n[0].In[0].T.Elem = 'c' }), api.ErrType, -2)
	wantFault(t, "no names", spoilt(func(n []api.Node) { n[1].Eqs[0].Names = nil }), api.ErrForm, 1)
	wantFault(t, "no expression", spoilt(func(n []api.Node) { n[0].Eqs[0].E = nil }), api.ErrForm, 0)
	wantFault(t, "a number", spoilt(func(n []api.Node) { n[1].Eqs[0].E[0].N = -1 }), api.ErrNumber, 1)
	wantFault(t, "a size's number", spoilt(func(n []api.Node) { n[0].In[0].T.N[0].N = api.MaxNum }), api.ErrNumber, -2)
	wantFault(t, "ahead of all else", spoilt(func(n []api.Node) {
		n[0].Sizes = []string{"n", "n"}
		n[0].Eqs[0].Names[0] = "a"
		n[1].Eqs[0].E[0].Op = 0
	}), api.ErrForm, 1)
	long := strings.Repeat(" node f() -> (b: int) { "+strings.Repeat("b=0+0+0+0+0;", 60)+" }", 9)
	wantWrong(t, long, api.ErrMany, -1)
}

// P5.1: nodes of one name.
func TestNodesTwice(t *testing.T) {
	node := func(name string) string { return " node " + name + "() -> (b: int) { b = 0; }" }
	wantWrong(t, node("f")+node("f")+node("main"), api.ErrTwice, -3)
	wantWrong(t, node("f")+node("g")+node("main")+node("f"), api.ErrTwice, -5)
	wantWrong(t, node("main")+node("main"), api.ErrTwice, -3)
	wantRight(t, node("f")+node("g")+node("main")+node("h"))
	ten := ""
	for i := range api.MaxNodes - 1 {
		ten += node(fmt.Sprint("f", i))
	}
	wantRight(t, ten+node("main"))
	wantWrong(t, ten+node("f0"), api.ErrTwice, -1-api.MaxNodes)
	wantWrong(t, ten+node("f9"), api.ErrMain, -1)
	wantRight(t, "node b(a: int) -> (b: int) { b = a; } node main(b: int) -> (main: int) { main = call b(b); }")
}

// P5.1: a node's sizes, inputs, outputs and locals, each name once.
func TestNamesTwice(t *testing.T) {
	head := func(sizes, inputs, outputs, locals string) string {
		return aMain + " node f<" + sizes + ">(" + inputs + ") -> (" + outputs + ") { " + locals + " y = 0; z = 0; v = 0; w = 0; }"
	}
	const sizes, inputs, outputs, locals = "n, m", "a: int, b: int", "y: int, z: int", "var v: int; var w: int;"
	wantRight(t, head(sizes, inputs, outputs, locals))
	for _, s := range []string{"n, n", "n, m, n", "m, n, n", "n, n, m", "n, n, n"} {
		wantWrong(t, head(s, inputs, outputs, locals), api.ErrTwice, -3)
	}
	for _, name := range []string{"n", "m", "a", "b"} {
		wantWrong(t, head(sizes, inputs+", "+name+": int", outputs, locals), api.ErrTwice, -3)
	}
	for _, name := range []string{"n", "m", "a", "b", "y", "z"} {
		wantWrong(t, head(sizes, inputs, outputs+", "+name+": int", locals), api.ErrTwice, -3)
	}
	for _, name := range []string{"n", "m", "a", "b", "y", "z", "v", "w"} {
		wantWrong(t, head(sizes, inputs, outputs, locals+"var "+name+": int;"), api.ErrTwice, -3)
		wantWrong(t, head(sizes, inputs, outputs, locals+"var "+name+": bool^n;"), api.ErrTwice, -3)
	}
	wantWrong(t, "node f(x: int, x: int) -> (y: int) { y = 0; }"+aMain, api.ErrTwice, -2)
	wantWrong(t, "node f(x: int) -> (x: int) { x = 0; }"+aMain, api.ErrTwice, -2)
	wantRight(t, "node f<f>(main: int) -> (y: int) { y = main; } node main(f: int) -> (y: int) { y = f; }")
}

// P5.1: sizes of inputs, outputs and locals: their names, then their range.
func TestDeclaredSizes(t *testing.T) {
	for _, size := range []string{"n", "m", "n + m - 3", "0", "-1", "0*n", "n - n", "2*m - 2*m", "1000000", "-1000000", "1000000*n", "1000000*n + 1000000*n"} {
		wantRight(t, sized("a: int^"+size, "y: bool^"+size, "var v: bool^"+size+"; v = pre(y, v); y = v;"))
	}
	for size, code := range map[string]int{
		"k": api.ErrNone, "f": api.ErrNone, "a": api.ErrNone, "y": api.ErrNone, "n + k": api.ErrNone, "0*k": api.ErrNone, "k - k": api.ErrNone, "main": api.ErrNone,
		"1000001": api.ErrRange, "-1000001": api.ErrRange, "1000001*n": api.ErrRange, "n - 1000001*m": api.ErrRange,
		"999999999999999999": api.ErrRange, "1000001 - 1000001": api.ErrRange,
		"1000001 + k": api.ErrNone, "1000001*n + 1000001*k": api.ErrNone, "1000001*k": api.ErrNone,
	} {
		wantWrong(t, sized("c: int, a: int^"+size, "y: int", "y = 0;"), code, -2)
		wantWrong(t, sized("a: int", "c: int, y: bool^"+size, "y = y; c = 0;"), code, -2)
		wantWrong(t, sized("a: int", "y: int", "var c: int; var v: int^"+size+"; y = 0; c = 0; v = v;"), code, -2)
		wantWrong(t, aMain+" node f<n, m>(a: int^"+size+") -> (y: int) { y = 0; }", code, -3)
	}
	wantWrong(t, "node g<k>() -> (b: int) { b = 0; }"+sized("a: int^k", "y: int", "y = 0;"), api.ErrNone, -3)
	wantWrong(t, "node main(a: int^n) -> (y: int) { y = 0; }", api.ErrNone, -2)
}

// P5.1: the names ahead of the "=".
func TestNamesMade(t *testing.T) {
	const g = "node g() -> (c: int, d: int, e: int) { c = 0; d = 0; e = 0; } " // equations 0 to 2
	node := func(body string) string {
		return g + "node main(a: int) -> (x: int, y: int) { var z: int; " + body + " }"
	}
	wantRight(t, node("x = 0; y = 0; z = 0;"))
	wantRight(t, node("x, y, z = call g();"))
	wantRight(t, node("z, x, y = call g();"))
	for _, none := range []string{"a", "q", "main", "g", "c", "n"} {
		wantWrong(t, node(none+" = 0; x = 0; y = 0; z = 0;"), api.ErrNone, 3)
		wantWrong(t, node("x = 0; y = 0; z = 0; "+none+" = 0;"), api.ErrNone, 6)
		wantWrong(t, node("x, y, "+none+" = call g(); z = 0;"), api.ErrNone, 3)
		wantWrong(t, node("z = 0; "+none+", x, y = call g();"), api.ErrNone, 4)
	}
	wantWrong(t, node("x = 0; x = 0; y = 0; z = 0;"), api.ErrTwice, 4)
	wantWrong(t, node("x = 0; y = 0; z = 0; x = 0;"), api.ErrTwice, 6)
	wantWrong(t, node("z = 0; z = 0;"), api.ErrTwice, 4)
	wantWrong(t, node("x, y, x = call g(); z = 0;"), api.ErrTwice, 3)
	wantWrong(t, node("x, x, y = call g(); z = 0;"), api.ErrTwice, 3)
	wantWrong(t, node("z = 0; x, y, z = call g();"), api.ErrTwice, 4)
	wantWrong(t, node("x, y, z = call g(); y = 0;"), api.ErrTwice, 4)
	wantWrong(t, node("x, x, q = call g();"), api.ErrTwice, 3)
	wantWrong(t, node("x, q, x = call g();"), api.ErrNone, 3)
	wantWrong(t, "node f<n>() -> (y: int) { n = 0; y = 0; }"+aMain, api.ErrNone, 0)
}

// P5.1: an output, or a local, that no equation makes.
func TestNotMade(t *testing.T) {
	node := func(body string) string {
		return "node f(a: int) -> (x: int, y: int) { var z: int; var w: int; " + body + " }" + aMain
	}
	wantRight(t, node("x = 0; y = 0; z = 0; w = 0;"))
	wantWrong(t, node(""), api.ErrNone, -2)
	wantWrong(t, node("y = 0; z = 0; w = 0;"), api.ErrNone, -2)
	wantWrong(t, node("x = 0; z = 0; w = 0;"), api.ErrNone, -2)
	wantWrong(t, node("x = 0; y = 0; w = 0;"), api.ErrNone, -2)
	wantWrong(t, node("x = 0; y = 0; z = 0;"), api.ErrNone, -2)
	wantWrong(t, node("x = y; z = w;"), api.ErrNone, -2)
	wantWrong(t, aMain+" node f() -> (y: int) { }", api.ErrNone, -3)
	wantWrong(t, "node f() -> (y: int) { y = 0; } node main() -> (y: int) { }", api.ErrNone, -3)
	wantRight(t, "node main(a: int, b: bool^3) -> (y: int) { y = 0; }") // inputs need no equation
}

// P5.1: main that is missing, and main with sizes.
func TestMain(t *testing.T) {
	node := func(head string) string { return " node " + head + "() -> (y: int) { y = 0; }" }
	wantRight(t, node("main"))
	wantRight(t, node("main")+node("f"))
	wantRight(t, node("f")+node("main")+node("g"))
	for _, head := range []string{"f", "main1", "mai", "domain", "main<n>", "main<n, m, k>", "f<main>"} {
		wantWrong(t, node(head), api.ErrMain, -1)
		wantWrong(t, node("g")+node(head)+node("h<n>"), api.ErrMain, -1)
	}
	wantWrong(t, node("main<n>")+node("main"), api.ErrTwice, -3)
	wantWrong(t, "node f() -> (y: int) { }", api.ErrNone, -2)
}

// P5.1: equations are numbered through the whole program, nodes from -2 down.
func TestPlaces(t *testing.T) {
	nodes := make([]string, api.MaxNodes)
	for i := range nodes {
		nodes[i] = fmt.Sprintf("node f%d() -> (y: int) { var z: int; z = 0; y = z; } ", i)
	}
	nodes[0] = strings.Replace(nodes[0], "f0", "main", 1)
	wantRight(t, strings.Join(nodes, ""))
	for i, node := range nodes {
		with := func(from, to string) string {
			all := append([]string(nil), nodes...)
			all[i] = strings.Replace(node, from, to, 1)
			return strings.Join(all, "")
		}
		wantWrong(t, with("z = 0", "z = true"), api.ErrType, 2*i)
		wantWrong(t, with("= z", "= q"), api.ErrNone, 2*i+1)
		wantWrong(t, with("y = z;", ""), api.ErrNone, -2-i)
		wantWrong(t, with("var z", "var y"), api.ErrTwice, -2-i)
	}
}
