package render

import (
	"slices"
	"strings"
	"testing"

	"loomwork/api"
	"loomwork/syntax"
)

// longName is a name as long as one may be.
const longName = "abcdefghijkl"

// badNames are none: too short, too long, words, and other bytes.
var badNames = []string{"", longName + "m", "if", "node", "min", "true", "xor", "1a", "9", "A", "aB", "a b", " a", "a\n", "a_b", "-", "a#", "\xff", "\x00", strings.Repeat("a", 2*api.MaxText)}

func name(s string) api.Expr { return api.Expr{Op: api.XName, Name: s} }

func num(n int64) api.Expr { return api.Expr{Op: api.XNum, N: n} }

func truth(n int64) api.Expr { return api.Expr{Op: api.XTruth, N: n} }

// op makes an expression of its kind, its operator and its parts.
func op(kind, k int, parts ...api.Expr) api.Expr { return api.Expr{Op: kind, K: k, L: parts} }

func fill(e api.Expr, n api.Size) api.Expr {
	return api.Expr{Op: api.XFill, S: []api.Size{n}, L: []api.Expr{e}}
}

func slice(e api.Expr, from, n api.Size) api.Expr {
	return api.Expr{Op: api.XSlice, S: []api.Size{from, n}, L: []api.Expr{e}}
}

// size makes a size of names, 1 time each.
func size(names ...string) api.Size {
	var s api.Size
	for _, n := range names {
		s = append(s, api.Term{N: 1, Name: n})
	}
	return s
}

func decl(name string) api.Decl { return api.Decl{Name: name, T: api.Type{Elem: 'i'}} }

// times puts a thing into a list as often as is said.
func times[T any](n int, thing T) []T { return slices.Repeat([]T{thing}, n) }

func plain(e api.Expr) api.Eq { return api.Eq{Names: []string{"b"}, E: []api.Expr{e}} }

func program(nodes ...api.Node) api.Program { return api.Program{Nodes: nodes} }

// node is one with these equations.
func node(eqs ...api.Eq) api.Node {
	return api.Node{Name: "a", Out: []api.Decl{decl("b")}, Eqs: eqs}
}

// one is the program of one expression.
func one(e api.Expr) api.Program { return program(node(plain(e))) }

// The text of one(e), but for e.
const (
	oneFront = "node a() -> (b: int) {\n\tb = "
	oneEnd   = ";\n}\n"
)

func wantFault(t *testing.T, what string, p api.Program, code, at int) {
	t.Helper()
	want := api.Fault{Code: code, At: at}
	if got := Check(p); got != want {
		t.Errorf("%.200s: Check: fault %v, want %v", what, got, want)
	}
	if text, got := Print(p); got != want || text != "" {
		t.Errorf("%.200s: Print: %.40q, fault %v, want %v", what, text, got, want)
	}
}

// wantBack asks for no fault, and for the program out of its own text.
func wantBack(t *testing.T, what string, p api.Program) string {
	t.Helper()
	text, fault := Print(p)
	if fault != (api.Fault{}) || Check(p) != fault {
		t.Errorf("%.200s: faults %v and %v, want none", what, fault, Check(p))
		return ""
	}
	back, fault := syntax.Parse(text)
	if fault != (api.Fault{}) || !syntax.Same(p, back) {
		t.Errorf("%.200s: Parse of %.200q: fault %v, or another program", what, text, fault)
	}
	return text
}

func wantText(t *testing.T, p api.Program, want string) {
	t.Helper()
	if got := wantBack(t, want, p); got != want {
		t.Errorf("Print: %q, want %q", got, want)
	}
}

func wantExpr(t *testing.T, e api.Expr, want string) {
	t.Helper()
	wantText(t, one(e), oneFront+want+oneEnd)
}
