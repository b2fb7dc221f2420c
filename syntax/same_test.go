package syntax

import (
	"slices"
	"testing"

	"loomwork/api"
)

// sample is a program in which every list has something and no field is zero.
func sample() api.Program {
	size := func() []api.Size { return []api.Size{{{N: 2, Name: "n"}, {N: -1, Name: "m"}}} }
	decls := func() []api.Decl {
		return []api.Decl{{Name: "a", T: api.Type{Elem: 'i', N: size()[0]}}, {Name: "c", T: api.Type{Elem: 'b', N: size()[0]}}}
	}
	expr := func() api.Expr {
		return api.Expr{Op: 1, K: 2, N: 3, Name: "x", S: size(), L: []api.Expr{{Op: 4, K: 5, N: 6, Name: "y", S: size(), L: []api.Expr{{Op: 7}}}}}
	}
	eq := func() api.Eq {
		return api.Eq{At: 40, Names: []string{"p", "q"}, Node: "g", S: size(), E: []api.Expr{expr(), expr()}}
	}
	node := func() api.Node {
		return api.Node{Name: "f", At: 20, Sizes: []string{"n", "m"}, In: decls(), Out: decls(), Local: decls(), Eqs: []api.Eq{eq(), eq()}}
	}
	return api.Program{Nodes: []api.Node{node(), node()}}
}

func wantSame(t *testing.T, what string, a, b api.Program, want bool) {
	t.Helper()
	if Same(a, b) != want || Same(b, a) != want {
		t.Errorf("%s: Same is %v and %v, want %v", what, Same(a, b), Same(b, a), want)
	}
}

// P2.2: programs that differ in their places alone.
func TestSameButForPlaces(t *testing.T) {
	wantSame(t, "the same", sample(), sample(), true)
	wantSame(t, "no programs", api.Program{}, api.Program{}, true)
	moved := sample()
	moved.Nodes[0].At = 21
	moved.Nodes[1].At = -1
	moved.Nodes[1].Eqs[0].At = 0
	moved.Nodes[1].Eqs[1].At = 41
	wantSame(t, "moved", sample(), moved, true)
	tight := "node f<n>(a:int^n-1)->(y:int){var b:bool;y=call g<n>((a[1:0]));b=y<2;}"
	wide := "# of f\nnode f < n > ( a : int ^ n - 1 ) -> ( y : int ) {\n\tvar b : bool ;\n\ty = call g < n > ( a [ (1) : 0 ] ) ;\n\tb = ( y < 2 ) ; }"
	wantSame(t, "texts", parsed(t, tight), parsed(t, wide), true)
	wantSame(t, "lines in another order", parsed(t, "node f()->(y:int){var b:int;y=1;}"), parsed(t, "node f()->(y:int){y=1;var b:int;}"), true)
}

// changes make the sample another program, each by one field.
var changes = map[string]func(n *api.Node){
	"name":            func(n *api.Node) { n.Name = "g" },
	"sizes":           func(n *api.Node) { n.Sizes[1] = "k" },
	"one size less":   func(n *api.Node) { n.Sizes = n.Sizes[:1] },
	"one size more":   func(n *api.Node) { n.Sizes = append(n.Sizes, "") },
	"sizes turned":    func(n *api.Node) { slices.Reverse(n.Sizes) },
	"no inputs":       func(n *api.Node) { n.In = nil },
	"input":           func(n *api.Node) { n.In[0].Name = "b" },
	"input's type":    func(n *api.Node) { n.In[1].T.Elem = 'i' },
	"input's size":    func(n *api.Node) { n.In[1].T.N[0].N = 3 },
	"a scalar":        func(n *api.Node) { n.In[0].T.N = nil },
	"inputs turned":   func(n *api.Node) { slices.Reverse(n.In) },
	"output":          func(n *api.Node) { n.Out[1].Name = "b" },
	"output's type":   func(n *api.Node) { n.Out[0].T.Elem = 'b' },
	"output's size":   func(n *api.Node) { n.Out[0].T.N[1].Name = "n" },
	"one output less": func(n *api.Node) { n.Out = n.Out[:1] },
	"local":           func(n *api.Node) { n.Local[0].Name = "b" },
	"local's type":    func(n *api.Node) { n.Local[0].T.Elem = 0 },
	"local's size":    func(n *api.Node) { n.Local[1].T.N = n.Local[1].T.N[:1] },
	"one local more":  func(n *api.Node) { n.Local = append(n.Local, api.Decl{}) },
	"no equations":    func(n *api.Node) { n.Eqs = nil },
	"one eq. less":    func(n *api.Node) { n.Eqs = n.Eqs[:1] },
	"one eq. more":    func(n *api.Node) { n.Eqs = append(n.Eqs, n.Eqs[0]) },
	"eq.'s name":      func(n *api.Node) { n.Eqs[1].Names[0] = "q" },
	"eq.'s names":     func(n *api.Node) { n.Eqs[1].Names = n.Eqs[1].Names[:1] },
	"names turned":    func(n *api.Node) { slices.Reverse(n.Eqs[0].Names) },
	"called node":     func(n *api.Node) { n.Eqs[0].Node = "" },
	"call's term":     func(n *api.Node) { n.Eqs[0].S[0][0].Name = "" },
	"call's sizes":    func(n *api.Node) { n.Eqs[0].S = nil },
	"call's size":     func(n *api.Node) { n.Eqs[0].S = append(n.Eqs[0].S, api.Size{}) },
	"terms turned":    func(n *api.Node) { slices.Reverse(n.Eqs[0].S[0]) },
	"one E less":      func(n *api.Node) { n.Eqs[1].E = n.Eqs[1].E[1:] },
	"op":              func(n *api.Node) { n.Eqs[1].E[1].Op = 2 },
	"k":               func(n *api.Node) { n.Eqs[1].E[1].K = 1 },
	"n":               func(n *api.Node) { n.Eqs[1].E[1].N = -3 },
	"e's name":        func(n *api.Node) { n.Eqs[1].E[1].Name = "y" },
	"e's size":        func(n *api.Node) { n.Eqs[1].E[1].S[0][1].N = 1 },
	"e's sizes":       func(n *api.Node) { n.Eqs[1].E[1].S = nil },
	"e's parts":       func(n *api.Node) { n.Eqs[1].E[1].L = nil },
	"one part more":   func(n *api.Node) { n.Eqs[1].E[1].L = append(n.Eqs[1].E[1].L, api.Expr{}) },
	"part's op":       func(n *api.Node) { n.Eqs[0].E[0].L[0].Op = 5 },
	"part's k":        func(n *api.Node) { n.Eqs[0].E[0].L[0].K = 0 },
	"part's n":        func(n *api.Node) { n.Eqs[0].E[0].L[0].N = 0 },
	"part's name":     func(n *api.Node) { n.Eqs[0].E[0].L[0].Name = "" },
	"part's size":     func(n *api.Node) { n.Eqs[0].E[0].L[0].S[0] = nil },
	"part's parts":    func(n *api.Node) { n.Eqs[0].E[0].L[0].L = nil },
	"part's part":     func(n *api.Node) { n.Eqs[0].E[0].L[0].L[0].Op = 8 },
}

// P2.2: programs that differ in each one field, in whichever node.
func TestSameDiffers(t *testing.T) {
	for what, change := range changes {
		for i := range 2 {
			other := sample()
			change(&other.Nodes[i])
			wantSame(t, what, sample(), other, false)
			wantSame(t, what, other, other, true)
		}
	}
	less := sample()
	less.Nodes = less.Nodes[:1]
	wantSame(t, "one node less", sample(), less, false)
	wantSame(t, "no nodes", less, api.Program{}, false)
}

// P2.2: lists without elements are one, nil or empty.
func TestSameEmptyLists(t *testing.T) {
	wantSame(t, "nodes", api.Program{}, api.Program{Nodes: []api.Node{}}, true)
	without := api.Program{Nodes: []api.Node{
		{Name: "f"},
		{Out: []api.Decl{{Name: "a"}}, Eqs: []api.Eq{{}, {S: []api.Size{nil}, E: []api.Expr{{}, {S: []api.Size{nil}}}}}},
	}}
	empty := api.Program{Nodes: []api.Node{
		{Name: "f", Sizes: []string{}, In: []api.Decl{}, Out: []api.Decl{}, Local: []api.Decl{}, Eqs: []api.Eq{}},
		{Sizes: []string{}, In: []api.Decl{}, Out: []api.Decl{{Name: "a", T: api.Type{N: api.Size{}}}}, Local: []api.Decl{}, Eqs: []api.Eq{
			{Names: []string{}, S: []api.Size{}, E: []api.Expr{}},
			{Names: []string{}, S: []api.Size{{}}, E: []api.Expr{{S: []api.Size{}, L: []api.Expr{}}, {S: []api.Size{{}}, L: []api.Expr{}}}},
		}},
	}}
	wantSame(t, "empty lists", without, empty, true)
	empty.Nodes[1].Eqs[1].S[0] = api.Size{{}}
	wantSame(t, "a term of nothing", without, empty, false)
}

// P2.2: what lies behind a list's length is not read.
func TestSameReadsNothingBehind(t *testing.T) {
	a, b := sample(), sample()
	b.Nodes[0].Eqs = append(b.Nodes[0].Eqs, api.Eq{Node: "z"})[:2]
	b.Nodes = append(b.Nodes, api.Node{Name: "z"})[:2]
	wantSame(t, "behind the length", a, b, true)
}

// P1: deep and long programs are held against each other, too.
func TestSameDeep(t *testing.T) {
	nest := func(last string) api.Program {
		e := api.Expr{Name: last}
		for range 1 << 16 {
			e = api.Expr{L: []api.Expr{e}}
		}
		return api.Program{Nodes: []api.Node{{Eqs: []api.Eq{{E: []api.Expr{e}}}}}}
	}
	wantSame(t, "nested", nest("a"), nest("a"), true)
	wantSame(t, "nested otherwise", nest("a"), nest("b"), false)
}
