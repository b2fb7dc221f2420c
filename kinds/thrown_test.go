package kinds

import (
	"fmt"
	"slices"
	"testing"

	"loomwork/api"
	"loomwork/render"
	"loomwork/size"
)

// thrower throws programs, most of whose nodes are right; one thing in rare is
// thrown without a look at what must stand there. Large sizes have sums that lie
// beyond what a term may be.
type thrower struct {
	dice
	rare  int
	large bool
	node  api.Node
}

func (th *thrower) slips() bool { return th.below(th.rare) == 0 }

func pick[T any](d *dice, list []T) T { return list[d.below(len(list))] }

// rewritten is the same size, in another order and with terms that come to 0.
func (th *thrower) rewritten(s api.Size) api.Size {
	out := slices.Clone(s)
	if th.below(3) == 0 {
		name := pick(&th.dice, append([]string{""}, th.node.Sizes...))
		out = append(out, api.Term{N: 3, Name: name}, api.Term{N: -3, Name: name})
	}
	if len(out) == 0 {
		out = api.Size{{}}
	}
	for i := range out {
		j := th.below(i + 1)
		out[i], out[j] = out[j], out[i]
	}
	return out
}

func (th *thrower) size() api.Size {
	out := api.Size{}
	for range 1 + th.below(2) {
		t := api.Term{N: int64(th.below(5)), Name: pick(&th.dice, append([]string{""}, th.node.Sizes...))}
		if th.large && th.below(2) == 0 {
			t.N = pick(&th.dice, []int64{1000000, 1000000, 999999, 600000, -1000000})
		}
		if th.slips() {
			t.N = pick(&th.dice, []int64{-1, 1000000, -1000000, 1000001, -1000001, 500000})
		}
		if th.slips() {
			t.Name = pick(&th.dice, []string{"", "n", "m", "k", "q"})
		}
		out = append(out, t)
	}
	return out
}

func (th *thrower) kind() api.Type {
	t := api.Type{Elem: "ib"[th.below(2)]}
	if th.below(2) == 0 {
		t.N = th.size()
	}
	return t
}

func (th *thrower) decls() []api.Decl { return slices.Concat(th.node.In, th.node.Out, th.node.Local) }

// leaf is a name of that type, or else what is the shortest.
func (th *thrower) leaf(t api.Type) api.Expr {
	decls := th.decls()
	if th.slips() {
		return api.Expr{Op: api.XName, Name: pick(&th.dice, append([]string{"q", "n"}, pick(&th.dice, decls).Name))}
	}
	first := th.below(len(decls))
	for i := range decls {
		if d := decls[(first+i)%len(decls)]; Same(d.T, t) && th.below(4) > 0 {
			return api.Expr{Op: api.XName, Name: d.Name}
		}
	}
	if len(t.N) > 0 {
		return api.Expr{Op: api.XFill, S: []api.Size{th.rewritten(t.N)}, L: []api.Expr{th.leaf(api.Type{Elem: t.Elem})}}
	}
	if t.Elem == 'b' {
		return api.Expr{Op: api.XTruth, N: int64(th.below(2))}
	}
	return api.Expr{Op: api.XNum, N: int64(th.below(9))}
}

// operator that makes such cells, with what it takes.
func (th *thrower) operator(makes byte, n int) (int, byte) {
	for {
		k := 1 + th.below(api.KNot)
		takes, made, count := Op(k)
		if made == makes && (count == n || th.slips()) || th.slips() {
			return k, takes
		}
	}
}

// folding is an operator that goes over such cells.
func (th *thrower) folding(elem byte) int {
	for {
		if k, takes := th.operator(elem, 2); takes == elem || th.slips() {
			return k
		}
	}
}

// expr is of that type, as far as nothing slips, and of parts so far within one
// another.
func (th *thrower) expr(t api.Type, deep int) api.Expr {
	if th.slips() {
		t = th.kind()
	}
	if deep == 0 || th.below(4) == 0 {
		return th.leaf(t)
	}
	of := func(op int, types ...api.Type) api.Expr {
		e := api.Expr{Op: op}
		for _, part := range types {
			e.L = append(e.L, th.expr(part, deep-1))
		}
		return e
	}
	num, truth := api.Type{Elem: 'i'}, api.Type{Elem: 'b'}
	switch th.below(4) {
	case 0:
		return of(api.XIf, truth, t, t)
	case 1:
		return of(api.XPre, t, t)
	}
	if len(t.N) > 0 {
		return th.array(t, of)
	}
	array := api.Type{Elem: t.Elem, N: th.size()}
	if th.below(3) == 0 {
		return of(api.XIndex, array, num, t)
	}
	if th.below(3) == 0 {
		e := of(api.XFold, t, array)
		e.K = th.folding(t.Elem)
		return e
	}
	n := 1 + th.below(2)
	k, takes := th.operator(t.Elem, n)
	_, _, n = Op(k)
	e := of([]int{api.XUn, api.XBin}[n-1], slices.Repeat([]api.Type{{Elem: takes}}, n)...)
	e.K = k
	return e
}

func (th *thrower) array(t api.Type, of func(op int, types ...api.Type) api.Expr) api.Expr {
	other := api.Type{Elem: t.Elem, N: th.rewritten(t.N)}
	cell := api.Type{Elem: t.Elem}
	switch th.below(6) {
	case 0:
		n := 1 + th.below(2)
		k, takes := th.operator(t.Elem, n)
		e := of(api.XMap, slices.Repeat([]api.Type{{Elem: takes, N: other.N}}, n)...)
		e.K = k
		return e
	case 1:
		e := of(api.XScan, cell, other)
		e.K = th.folding(t.Elem)
		return e
	case 2:
		e := of(api.XFill, cell)
		e.S = []api.Size{other.N}
		return e
	case 3:
		e := of(api.XSlice, api.Type{Elem: t.Elem, N: th.size()})
		e.S = []api.Size{th.size(), other.N}
		return e
	case 4:
		return of(api.XWith, other, api.Type{Elem: 'i'}, cell)
	}
	front := th.size()
	back := slices.Clone(t.N)
	for _, term := range front {
		back = append(back, api.Term{N: -term.N, Name: term.Name})
	}
	return of(api.XCat, api.Type{Elem: t.Elem, N: front}, api.Type{Elem: t.Elem, N: back})
}

// call adds an equation that calls a node above, and locals for what it makes.
func (th *thrower) call(above []api.Node) {
	called := pick(&th.dice, above)
	q := api.Eq{Node: called.Name}
	for range called.Sizes {
		q.S = append(q.S, th.size())
	}
	put := func(d api.Decl) api.Type {
		n, _ := size.With(d.T.N, called.Sizes, q.S)
		if len(d.T.N) > 0 {
			n = th.rewritten(n)
		}
		return api.Type{Elem: d.T.Elem, N: n}
	}
	for _, d := range called.In {
		q.E = append(q.E, th.expr(put(d), 1))
	}
	for _, d := range called.Out {
		name := fmt.Sprint("v", len(th.node.Local))
		th.node.Local = append(th.node.Local, api.Decl{Name: name, T: put(d)})
		q.Names = append(q.Names, name)
	}
	th.slip(&q)
	th.node.Eqs = append(th.node.Eqs, q)
}

// slip makes a call have a thing too many or too few, or another name.
func (th *thrower) slip(q *api.Eq) {
	if !th.slips() {
		return
	}
	switch th.below(8) {
	case 0:
		q.S = append(q.S, th.size())
	case 1:
		q.E = append(q.E, th.expr(th.kind(), 1))
	case 2:
		q.E = q.E[:max(len(q.E), 1)-1]
	case 3:
		q.Names = append(q.Names, pick(&th.dice, th.decls()).Name)
	case 4:
		q.Names[0] = pick(&th.dice, th.decls()).Name
	default:
		q.Node = pick(&th.dice, []string{"f0", "f1", "f2", "f3", "main"})
	}
}

func (th *thrower) someDecls(front string, least int) []api.Decl {
	var list []api.Decl
	for i := range least + th.below(3) {
		name := fmt.Sprint(front, i)
		if th.slips() {
			name = pick(&th.dice, []string{"a0", "y0", "v0", "n", "m"})
		}
		list = append(list, api.Decl{Name: name, T: th.kind()})
	}
	return list
}

func (th *thrower) makeNode(name string, above []api.Node) api.Node {
	th.node = api.Node{Name: name}
	if name != "main" || th.slips() {
		th.node.Sizes = [][]string{nil, {"n"}, {"m", "n"}, {"n", "k", "m"}}[th.below(4)]
	}
	th.node.In = th.someDecls("a", 0)
	th.node.Out = th.someDecls("y", 1)
	th.node.Local = th.someDecls("v", 0)
	toMake := slices.Concat(th.node.Out, th.node.Local)
	for len(above) > 0 && th.below(3) > 0 {
		th.call(above)
	}
	for _, d := range toMake {
		name := d.Name
		if th.slips() {
			name = pick(&th.dice, th.decls()).Name
		}
		th.node.Eqs = append(th.node.Eqs, api.Eq{Names: []string{name}, E: []api.Expr{th.expr(d.T, 2)}})
	}
	if th.slips() {
		th.node.Eqs = th.node.Eqs[1:]
	}
	for i := range th.node.Eqs {
		j := th.below(i + 1)
		th.node.Eqs[i], th.node.Eqs[j] = th.node.Eqs[j], th.node.Eqs[i]
	}
	return th.node
}

func (th *thrower) program() api.Program {
	var nodes []api.Node
	count := 1 + th.below(4)
	for i := range count {
		name := fmt.Sprint("f", i)
		if i == count-1 && !th.slips() {
			name = "main"
		}
		if th.slips() {
			name = "f0"
		}
		nodes = append(nodes, th.makeNode(name, nodes))
	}
	return api.Program{Nodes: nodes}
}

// P5.1: many programs, held against the chapter's words.
func TestThrown(t *testing.T) {
	told := map[int]int{}
	for i := range 20000 {
		th := &thrower{dice: dice(i), rare: []int{1 << 30, 1000, 150, 20}[i%4], large: i%12 < 4}
		p := th.program()
		want := saidCheck(p)
		if got := Check(p); got != want {
			text, _ := render.Print(p)
			t.Fatalf("thrown %d: fault %v, want %v: %s", i, got, want, text)
		}
		if got := Check(p); got != want {
			t.Fatalf("thrown %d: another fault when asked again", i)
		}
		told[want.Code]++
	}
	for _, code := range []int{0, api.ErrTwice, api.ErrNone, api.ErrType, api.ErrNode, api.ErrCount, api.ErrMain, api.ErrRange} {
		if told[code] < 20 {
			t.Errorf("the code %d was wanted %d times alone", code, told[code])
		}
	}
	if told[0] < 5000 {
		t.Errorf("%d programs alone were right", told[0])
	}
}
