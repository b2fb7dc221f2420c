package kinds

import (
	"math"
	"reflect"
	"slices"
	"strings"
	"sync"
	"testing"

	"loomwork/api"
)

// spare copies a list into memory of its own, with more of it behind: what lies
// there is filled by the function.
func spare[T any](list []T, behind T, copied func(T) T) []T {
	if list == nil {
		return nil
	}
	long := make([]T, 0, len(list)+3)
	for _, x := range list {
		long = append(long, copied(x))
	}
	out := long[:len(list)]
	for i := len(list); i < cap(long); i++ {
		long[:cap(long)][i] = behind
	}
	return out
}

// copier copies programs, with some term, name and expression behind each list.
type copier struct {
	term api.Term
	name string
	expr api.Expr
}

func itself[T any](x T) T { return x }

func (c copier) size(s api.Size) api.Size { return spare(s, c.term, itself[api.Term]) }

func (c copier) names(l []string) []string { return spare(l, c.name, itself[string]) }

func (c copier) sizes(l []api.Size) []api.Size { return spare(l, api.Size{c.term}, c.size) }

func (c copier) exprs(l []api.Expr) []api.Expr {
	return spare(l, c.expr, func(e api.Expr) api.Expr {
		e.S, e.L = c.sizes(e.S), c.exprs(e.L)
		return e
	})
}

func (c copier) decls(l []api.Decl) []api.Decl {
	return spare(l, api.Decl{Name: c.name}, func(d api.Decl) api.Decl {
		d.T.N = c.size(d.T.N)
		return d
	})
}

func (c copier) node(n api.Node) api.Node {
	n.Sizes, n.In, n.Out, n.Local = c.names(n.Sizes), c.decls(n.In), c.decls(n.Out), c.decls(n.Local)
	n.Eqs = spare(n.Eqs, api.Eq{Node: c.name}, func(q api.Eq) api.Eq {
		q.Names, q.S, q.E = c.names(q.Names), c.sizes(q.S), c.exprs(q.E)
		return q
	})
	return n
}

func (c copier) program(p api.Program) api.Program {
	return api.Program{Nodes: spare(p.Nodes, api.Node{Name: c.name}, c.node)}
}

// whole answers a list with what lies behind its length.
func whole[T any](l []T) []T { return l[:cap(l)] }

// lists hands over each list of a program, with what lies behind it.
func lists(p api.Program, do func(list any)) {
	var ofExprs func(l []api.Expr)
	ofSizes := func(l []api.Size) {
		do(whole(l))
		for _, s := range l {
			do(whole(s))
		}
	}
	ofExprs = func(l []api.Expr) {
		do(whole(l))
		for _, e := range l {
			ofSizes(e.S)
			ofExprs(e.L)
		}
	}
	do(whole(p.Nodes))
	for _, n := range p.Nodes {
		do(whole(n.Sizes))
		for _, decls := range [][]api.Decl{n.In, n.Out, n.Local} {
			do(whole(decls))
			for _, d := range decls {
				do(whole(d.T.N))
			}
		}
		do(whole(n.Eqs))
		for _, q := range n.Eqs {
			do(whole(q.Names))
			ofSizes(q.S)
			ofExprs(q.E)
		}
	}
}

func listsOf(p api.Program) []any {
	var all []any
	lists(p, func(list any) { all = append(all, list) })
	return all
}

// P1 and 'What holds everywhere': what is handed in stays as it was, and what
// lies behind the lists is neither read nor written.
func TestHandedIn(t *testing.T) {
	copiers := []copier{
		{api.Term{N: 1, Name: "n"}, "n", api.Expr{Op: api.XNum}},
		{api.Term{N: math.MaxInt64, Name: "q"}, "y0", api.Expr{Op: api.XName, Name: "q"}},
		{},
	}
	for i := range 1500 {
		th := &thrower{dice: dice(i), rare: []int{1 << 30, 150}[i%2]}
		p := th.program()
		want := Check(p)
		for _, c := range copiers {
			given, kept := c.program(p), c.program(p)
			if got := Check(given); got != want {
				t.Fatalf("thrown %d: fault %v, with more behind the lists %v", i, want, got)
			}
			if !reflect.DeepEqual(listsOf(given), listsOf(kept)) {
				t.Fatalf("thrown %d: changed", i)
			}
		}
	}
	a := copiers[0].size(sum(3, "n", 1, "", -2, "n"))
	b := copiers[1].size(sum(1, "", 1, "n"))
	keptA, keptB := slices.Clone(whole(a)), slices.Clone(whole(b))
	wantSame(t, "with more behind", api.Type{Elem: 'i', N: a}, api.Type{Elem: 'i', N: b}, true)
	if !slices.Equal(whole(a), keptA) || !slices.Equal(whole(b), keptB) {
		t.Errorf("changed: %v, %v", whole(a), whole(b))
	}
}

// Nil and empty lists are the same.
func TestEmptyLists(t *testing.T) {
	empty := func(n *api.Node) {
		n.Sizes, n.In, n.Local = []string{}, []api.Decl{}, []api.Decl{}
		n.Out[0].T.N = api.Size{}
		n.Eqs[0].S, n.Eqs[0].E[0].S, n.Eqs[0].E[0].L = []api.Size{}, []api.Size{}, []api.Expr{}
	}
	p := parsed(t, "node main() -> (o: int) { o = 0; }")
	empty(&p.Nodes[0])
	wantFault(t, "empty lists", p, 0, 0)
	p = parsed(t, "node f() -> (o: int) { o = 0; } node main() -> (o: int) { o = call f(); }")
	empty(&p.Nodes[0])
	p.Nodes[1].Eqs[0].S, p.Nodes[1].Eqs[0].E = []api.Size{}, []api.Expr{}
	wantFault(t, "a call with empty lists", p, 0, 0)
}

// anything is a program of whatever numbers and texts.
func anything(d *dice) api.Program {
	texts := []string{"", "a", "b", "n", "main", "if", "A", "\xff", "aaaaaaaaaaaaa"}
	numbers := []int64{0, 1, 2, -1, 1000001, math.MaxInt64, math.MinInt64}
	aSize := func() api.Size {
		s := api.Size{}
		for range d.below(4) {
			s = append(s, api.Term{N: pick(d, numbers), Name: pick(d, texts)})
		}
		return s
	}
	sizes := func() []api.Size {
		l := []api.Size{}
		for range d.below(4) {
			l = append(l, aSize())
		}
		return l
	}
	var expr func(deep int) api.Expr
	expr = func(deep int) api.Expr {
		e := api.Expr{Op: d.below(17), K: d.below(16), N: pick(d, numbers), Name: pick(d, texts), S: sizes()}
		for range d.below(4) {
			if deep > 0 {
				e.L = append(e.L, expr(deep-1))
			}
		}
		return e
	}
	decls := func() []api.Decl {
		l := []api.Decl{}
		for range d.below(4) {
			l = append(l, api.Decl{Name: pick(d, texts), T: api.Type{Elem: "ibx"[d.below(3)], N: aSize()}})
		}
		return l
	}
	p := api.Program{}
	for range d.below(4) {
		n := api.Node{Name: pick(d, texts), At: d.below(9) - 4, Sizes: texts[:d.below(3)], In: decls(), Out: decls(), Local: decls()}
		for range d.below(3) {
			n.Eqs = append(n.Eqs, api.Eq{Names: texts[1 : 1+d.below(3)], Node: pick(d, texts), S: sizes(), E: []api.Expr{expr(2)}[:d.below(2)]})
		}
		p.Nodes = append(p.Nodes, n)
	}
	return p
}

// P1: no call panics, whatever it is given.
func TestAnything(t *testing.T) {
	d := dice(5)
	for i := range 5000 {
		p := anything(&d)
		if got, want := Check(p), saidCheck(p); got != want {
			t.Fatalf("thrown %d: fault %v, want %v", i, got, want)
		}
	}
}

// P1: every call ends: parts that are themselves, and lists that are long.
func TestEndless(t *testing.T) {
	round := []api.Expr{{Op: api.XUn, K: api.KNeg}}
	round[0].L = round
	p := parsed(t, "node main() -> (o: int) { o = 0; }")
	p.Nodes[0].Eqs[0].E = round
	wantFault(t, "a part that is itself", p, api.ErrMany, 0)
	both := []api.Expr{{Op: api.XCat}, {Op: api.XCat}}
	both[0].L, both[1].L = both, both
	p.Nodes[0].Eqs[0].E = both[:1]
	wantFault(t, "two parts that are themselves", p, api.ErrMany, 0)

	p = parsed(t, "node main(a: int^1) -> (o: int) { o = 0; }")
	p.Nodes[0].In[0].T.N = slices.Repeat(api.Size{{N: 1}}, 1<<20)
	wantFault(t, "a long size", p, api.ErrMany, -2)
	p = parsed(t, "node main(a: int) -> (o: int) { o = 0; }")
	p.Nodes[0].In = slices.Repeat(p.Nodes[0].In, 1<<20)
	wantFault(t, "many inputs", p, api.ErrMany, -2)
	p = parsed(t, "node main(a: int) -> (o: int) { o = 0; }")
	p.Nodes[0].Eqs[0].Names[0] = strings.Repeat("o", 1<<24)
	wantFault(t, "a long name", p, api.ErrName, 0)
	wantFault(t, "many nodes", api.Program{Nodes: slices.Repeat(p.Nodes, 1<<16)}, api.ErrMany, -1)
}

// P5.1: programs that are as large as they may be are right.
func TestLargest(t *testing.T) {
	thirty := func(piece string) string {
		all := ""
		for i := range api.MaxDecls {
			all += strings.ReplaceAll(piece, "#", string([]byte{'a' + byte(i/10), '0' + byte(i%10)}))
		}
		return all
	}
	listed := func(piece string) string { return strings.TrimPrefix(thirty(", "+piece), ", ") }
	wantRight(t, "node f("+listed("x#: int")+") -> ("+listed("y#: int")+") { "+thirty("y# = x#;")+" } "+
		"node main("+listed("x#: int")+") -> ("+listed("y#: int")+") { "+thirty("var v#: int;")+thirty("v# = y#;")+listed("y#")+" = call f("+listed("x#")+"); }")
	deep := strings.Repeat("-", api.MaxTerms-1) + "x"
	wantRight(t, "node main(x: int) -> (y: int) { y = "+deep+"; }")
	wantWrong(t, "node main(x: bool) -> (y: int) { y = "+deep+"; }", api.ErrType, 0)
	long := strings.Repeat("n + ", api.MaxTerms-1) + "n"
	wantRight(t, "node f<n>(a: int^"+long+") -> (b: int^"+long+") { b = a; } node g<n>(a: int^900*n) -> (b: int^900*n) { b = call f<"+long+">(a); }"+aMain)
	cats := "a"
	for range (api.MaxTerms - 1) / 2 {
		cats = "cat(" + cats + ", a)"
	}
	wantRight(t, "node f<n>(a: int^"+long+") -> (b: int^450*n) { b = "+cats+"; }"+aMain)
}

// P1: what is answered hangs on the arguments alone.
func TestAtOnce(t *testing.T) {
	programs := rightPrograms(50)
	for i := range 50 {
		th := &thrower{dice: dice(i), rare: 20}
		programs = append(programs, th.program())
	}
	wants := make([]api.Fault, len(programs))
	for i, p := range programs {
		wants[i] = Check(p)
	}
	var group sync.WaitGroup
	for range 4 {
		group.Go(func() {
			for i, p := range programs {
				if got := Check(p); got != wants[i] {
					t.Errorf("program %d: fault %v, want %v", i, got, wants[i])
				}
			}
		})
	}
	group.Wait()
}
