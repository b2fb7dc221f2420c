package inst

import (
	"math"
	"reflect"
	"slices"
	"strings"
	"sync"
	"testing"

	"loomwork/api"
)

// spare copies a list into one that has room behind its length, with something
// there, and its things by the function.
func spare[T any](list []T, behind T, copied func(T) T) []T {
	if list == nil {
		return nil
	}
	long := make([]T, 0, len(list)+3)
	for _, x := range list {
		long = append(long, copied(x))
	}
	out := long[:len(list)]
	for i := len(list); i < cap(long); i++ {
		long[:cap(long)][i] = behind
	}
	return out
}

// copier copies programs, with some term, name and expression behind each list.
type copier struct {
	term api.Term
	name string
	expr api.Expr
}

func itself[T any](x T) T { return x }

func (c copier) size(s api.Size) api.Size { return spare(s, c.term, itself[api.Term]) }

func (c copier) names(l []string) []string { return spare(l, c.name, itself[string]) }

func (c copier) sizes(l []api.Size) []api.Size { return spare(l, api.Size{c.term}, c.size) }

func (c copier) exprs(l []api.Expr) []api.Expr {
	return spare(l, c.expr, func(e api.Expr) api.Expr {
		e.S, e.L = c.sizes(e.S), c.exprs(e.L)
		return e
	})
}

func (c copier) decls(l []api.Decl) []api.Decl {
	return spare(l, api.Decl{Name: c.name}, func(d api.Decl) api.Decl {
		d.T.N = c.size(d.T.N)
		return d
	})
}

func (c copier) node(n api.Node) api.Node {
	n.Sizes, n.In, n.Out, n.Local = c.names(n.Sizes), c.decls(n.In), c.decls(n.Out), c.decls(n.Local)
	n.Eqs = spare(n.Eqs, api.Eq{Node: c.name}, func(q api.Eq) api.Eq {
		q.Names, q.S, q.E = c.names(q.Names), c.sizes(q.S), c.exprs(q.E)
		return q
	})
	return n
}

func (c copier) program(p api.Program) api.Program {
	return api.Program{Nodes: spare(p.Nodes, api.Node{Name: c.name}, c.node)}
}

// whole answers a list with what lies behind its length.
func whole[T any](l []T) []T { return l[:cap(l)] }

// listsOf answers each list of a program, with what lies behind it.
func listsOf(p api.Program) []any {
	var all []any
	var ofExprs func(l []api.Expr)
	ofSizes := func(l []api.Size) {
		all = append(all, whole(l))
		for _, s := range l {
			all = append(all, whole(s))
		}
	}
	ofExprs = func(l []api.Expr) {
		all = append(all, whole(l))
		for _, e := range l {
			ofSizes(e.S)
			ofExprs(e.L)
		}
	}
	all = append(all, whole(p.Nodes))
	for _, n := range p.Nodes {
		all = append(all, whole(n.Sizes), whole(n.In), whole(n.Out), whole(n.Local), whole(n.Eqs))
		for _, d := range slices.Concat(n.In, n.Out, n.Local) {
			all = append(all, whole(d.T.N))
		}
		for _, q := range n.Eqs {
			all = append(all, whole(q.Names))
			ofSizes(q.S)
			ofExprs(q.E)
		}
	}
	return all
}

// P1 and 'What holds everywhere': what is handed in stays as it was, and what
// lies behind the lists is neither read nor written, not even when the answer is
// written over.
func TestHandedIn(t *testing.T) {
	copiers := []copier{
		{api.Term{N: 1, Name: "n"}, "n", api.Expr{Op: api.XNum}},
		{api.Term{N: math.MaxInt64, Name: "q"}, "main", api.Expr{Op: api.XName, Name: "q"}},
		{},
	}
	for i := range 1500 {
		p := thrown(i)
		want, wantFault := Make(p)
		for _, c := range copiers {
			given, kept := c.program(p), c.program(p)
			got, fault := Make(given)
			if fault != wantFault || told(got) != told(want) {
				t.Fatalf("thrown %d: %v, fault %v, with more behind the lists %v, fault %v", i, want, wantFault, got, fault)
			}
			writeOver(got)
			if !reflect.DeepEqual(listsOf(given), listsOf(kept)) {
				t.Fatalf("thrown %d: changed", i)
			}
			if again, fault := Make(given); fault != wantFault || told(again) != told(want) {
				t.Fatalf("thrown %d: another answer when asked again", i)
			}
		}
	}
}

// writeOver writes over all that a system has, and over what lies behind.
func writeOver(s api.System) {
	for _, r := range s.Rules {
		fill(r.A, -7)
		fill(r.E, api.Push{Op: -7})
	}
	fill(s.Vars, api.Var{Elem: 'x', N: -7})
	fill(s.In, -7)
	fill(s.Out, -7)
	fill(s.Rules, api.Rule{Op: -7})
}

func fill[T any](l []T, with T) {
	for i := range whole(l) {
		whole(l)[i] = with
	}
}

// 'What holds everywhere': no two lists of an answer share memory.
func TestListsApart(t *testing.T) {
	for i := range 1500 {
		p := thrown(i)
		s, fault := Make(p)
		if fault.Code != 0 {
			continue
		}
		want, _ := Make(p)
		lists := [][]int{s.In, s.Out}
		wants := [][]int{want.In, want.Out}
		for j := range s.Rules {
			lists, wants = append(lists, s.Rules[j].A), append(wants, want.Rules[j].A)
		}
		for j, list := range lists {
			if !slices.Equal(list, wants[j]) {
				t.Fatalf("thrown %d: the list %d is %v, want %v", i, j, list, wants[j])
			}
			fill(list, -7)
		}
	}
	s := madeOf(t, "node f(a: int, b: int) -> (c: int, d: int) { c = a; d = b; } node main(x: int, y: int) -> (u: int, v: int) { u, v = call f(x, y); }")
	fill(s.Rules[0].A, 9)
	fill(s.Out, 8)
	if want := []int{0, 1}; !slices.Equal(s.In, want) || !slices.Equal(s.Rules[1].A, []int{1}) {
		t.Errorf("%v", s)
	}
}

// Nil and empty lists are the same.
func TestEmptyLists(t *testing.T) {
	empty := func(n *api.Node) {
		n.Sizes, n.In, n.Local = []string{}, []api.Decl{}, []api.Decl{}
		n.Out[0].T.N = api.Size{}
		n.Eqs[0].S, n.Eqs[0].E[0].S, n.Eqs[0].E[0].L = []api.Size{}, []api.Size{}, []api.Expr{}
	}
	const text = "node f() -> (o: int) { o = 4; } node main() -> (o: int) { o = call f(); }"
	p := parsed(t, text)
	empty(&p.Nodes[0])
	p.Nodes[1].Eqs[0].S, p.Nodes[1].Eqs[0].E = []api.Size{}, []api.Expr{}
	p.Nodes[1].Out[0].T.N = api.Size{}
	got, fault := Make(p)
	if want := madeOf(t, text); fault != (api.Fault{}) || told(got) != told(want) {
		t.Errorf("%v, fault %v, want %v", got, fault, want)
	}
	wantMade(t, text, 0, 1, "i", number(0, 4))
}

// anything is a program of whatever numbers and texts.
func anything(d *dice) api.Program {
	texts := []string{"", "a", "b", "n", "main", "if", "A", "\xff", "aaaaaaaaaaaaa"}
	numbers := []int64{0, 1, 2, -1, 1000001, math.MaxInt64, math.MinInt64}
	sizes := func() []api.Size {
		l := []api.Size{}
		for range d.below(4) {
			l = append(l, api.Size{{N: pick(d, numbers), Name: pick(d, texts)}}[:d.below(2)])
		}
		return l
	}
	var expr func(deep int) api.Expr
	expr = func(deep int) api.Expr {
		e := api.Expr{Op: d.below(17), K: d.below(16), N: pick(d, numbers), Name: pick(d, texts), S: sizes()}
		for range d.below(4) {
			if deep > 0 {
				e.L = append(e.L, expr(deep-1))
			}
		}
		return e
	}
	decls := func() []api.Decl {
		l := []api.Decl{}
		for range d.below(4) {
			l = append(l, api.Decl{Name: pick(d, texts), T: api.Type{Elem: "ibx"[d.below(3)]}})
		}
		return l
	}
	p := api.Program{}
	for range d.below(4) {
		n := api.Node{Name: pick(d, texts), At: d.below(9) - 4, Sizes: texts[:d.below(3)], In: decls(), Out: decls(), Local: decls()}
		for range d.below(3) {
			n.Eqs = append(n.Eqs, api.Eq{Names: texts[1 : 1+d.below(3)], Node: pick(d, texts), S: sizes(), E: []api.Expr{expr(2)}[:d.below(2)]})
		}
		p.Nodes = append(p.Nodes, n)
	}
	return p
}

// slip puts something else at one place of a program.
func slip(d *dice, p api.Program) {
	n := &p.Nodes[d.below(len(p.Nodes))]
	if len(n.Eqs) == 0 {
		return
	}
	q := &n.Eqs[d.below(len(n.Eqs))]
	numbers := []int64{0, 1, -1, 299, 300, 301, 1000000, -1000000, math.MaxInt64, math.MinInt64}
	texts := []string{"", "main", "f0", "f1", "a0", "y0", "v0", "v1", "n", "m"}
	size := api.Size{{N: pick(d, numbers), Name: pick(d, texts)}}
	switch d.below(9) {
	case 0:
		n.Name = pick(d, texts)
	case 1:
		n.Out[0].T.N = size
	case 2:
		n.Local = append(slices.Clone(n.Local), api.Decl{Name: pick(d, texts), T: api.Type{Elem: 'i', N: size}})
	case 3:
		q.Node = pick(d, texts)
	case 4:
		q.Names = append(slices.Clone(q.Names), pick(d, texts))
	case 5:
		q.S = []api.Size{size}
	case 6:
		q.E = slices.Repeat(q.E, 2)
	case 7:
		n.Eqs = n.Eqs[1:]
	default:
		if len(q.E) > 0 {
			q.E[0].Op, q.E[0].K = d.below(17), d.below(16)
		}
	}
}

// P1: no call panics, whatever it is given.
func TestAnything(t *testing.T) {
	d := dice(5)
	for i := range 5000 {
		p := anything(&d)
		if i%2 == 0 {
			p = thrown(i)
			for range 1 + d.below(3) {
				slip(&d, p)
			}
		}
		want, wantFault := saidMake(p)
		got, fault := Make(p)
		if fault != wantFault || told(got) != told(want) {
			t.Fatalf("thrown %d: %v, fault %v, want %v, fault %v", i, got, fault, want, wantFault)
		}
	}
}

// P1: every call ends: parts that are themselves, and lists that are long.
func TestEndless(t *testing.T) {
	round := []api.Expr{{Op: api.XUn, K: api.KNeg}}
	round[0].L = round
	p := parsed(t, "node main() -> (o: int) { o = 0; }")
	p.Nodes[0].Eqs[0].E = round
	wantFault(t, "a part that is itself", p, api.ErrMany, 0)
	both := []api.Expr{{Op: api.XCat}, {Op: api.XCat}}
	both[0].L, both[1].L = both, both
	p.Nodes[0].Eqs[0].E = both[:1]
	wantFault(t, "two parts that are themselves", p, api.ErrMany, 0)
	p = parsed(t, "node main(a: int^1) -> (o: int) { o = 0; }")
	p.Nodes[0].In[0].T.N = slices.Repeat(api.Size{{N: 1}}, 1<<20)
	wantFault(t, "a long size", p, api.ErrMany, -2)
	p = parsed(t, "node main(a: int) -> (o: int) { o = 0; }")
	p.Nodes[0].Eqs[0].Names[0] = strings.Repeat("o", 1<<24)
	wantFault(t, "a long name", p, api.ErrName, 0)
	wantFault(t, "many nodes", api.Program{Nodes: slices.Repeat(p.Nodes, 1<<16)}, api.ErrMany, -1)
}

// Parts that share memory are made one by one all the same.
func TestSharedParts(t *testing.T) {
	p := parsed(t, "node main(x: int) -> (y: int, z: int) { y = -1 + -2; z = x; }")
	sum := p.Nodes[0].Eqs[0].E[0]
	sum.L[1] = sum.L[0]
	p.Nodes[0].Eqs[1].E = p.Nodes[0].Eqs[0].E
	got, fault := Make(p)
	want := madeOf(t, "node main(x: int) -> (y: int, z: int) { y = -1 + -1; z = -1 + -1; }")
	if fault != (api.Fault{}) || told(got) != told(want) {
		t.Errorf("%v, fault %v, want %v", got, fault, want)
	}
}

// P1: what is answered hangs on the arguments alone.
func TestAtOnce(t *testing.T) {
	var programs []api.Program
	var wants []string
	for i := range 100 {
		programs = append(programs, thrown(i))
		s, fault := Make(programs[i])
		wants = append(wants, told(s)+told(api.System{In: []int{fault.Code, fault.At}}))
	}
	var group sync.WaitGroup
	for range 4 {
		group.Go(func() {
			for i, p := range programs {
				s, fault := Make(p)
				if got := told(s) + told(api.System{In: []int{fault.Code, fault.At}}); got != wants[i] {
					t.Errorf("program %d: %s, want %s", i, got, wants[i])
				}
			}
		})
	}
	group.Wait()
}
