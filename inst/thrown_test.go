package inst

import (
	"fmt"
	"slices"
	"testing"

	"loomwork/api"
	"loomwork/kinds"
	"loomwork/render"
	"loomwork/size"
)

// thrower throws programs whose names and types are right, and most of whose
// sizes are; one thing in rare is thrown without a look at what must stand there.
type thrower struct {
	dice
	rare    int
	calls   int // how many a node has at most
	node    api.Node
	numbers map[string]int // what the node's sizes are likely to be
	likely  map[string]map[string]int
}

func (th *thrower) slips() bool { return th.below(th.rare) == 0 }

// of is a size that is likely to come to a number.
func (th *thrower) of(n int) api.Size {
	if th.slips() {
		n = pick(&th.dice, []int{-1, 0, 1, 299, 300, 301, 1000001})
	}
	if len(th.node.Sizes) == 0 || th.below(3) == 0 {
		return api.Size{{N: int64(n)}}
	}
	name, times := pick(&th.dice, th.node.Sizes), 1+th.below(2)
	s := api.Size{{N: int64(times), Name: name}}
	if rest := n - times*th.numbers[name]; rest != 0 {
		s = append(s, api.Term{N: int64(rest)})
	}
	return s
}

// about is the number that a size is likely to come to.
func (th *thrower) about(s api.Size) int {
	sum := 0
	for _, t := range s {
		factor := 1
		if t.Name != "" {
			factor = th.numbers[t.Name]
		}
		sum += int(t.N) * factor
	}
	return sum
}

func (th *thrower) cells() int {
	if th.below(12) == 0 {
		return pick(&th.dice, []int{100, 149, 150, 151, 299, 300})
	}
	return 1 + th.below(5)
}

func (th *thrower) kind() api.Type {
	t := api.Type{Elem: "ib"[th.below(2)]}
	if th.below(2) == 0 {
		t.N = th.of(th.cells())
	}
	return t
}

func (th *thrower) decls() []api.Decl { return slices.Concat(th.node.In, th.node.Out, th.node.Local) }

// leaf is a name of that type, or else what is the shortest.
func (th *thrower) leaf(t api.Type) api.Expr {
	decls := th.decls()
	first := th.below(len(decls))
	for i := range decls {
		if d := decls[(first+i)%len(decls)]; kinds.Same(d.T, t) && th.below(5) > 0 {
			return api.Expr{Op: api.XName, Name: d.Name}
		}
	}
	switch {
	case len(t.N) > 0:
		return api.Expr{Op: api.XFill, S: []api.Size{t.N}, L: []api.Expr{th.leaf(api.Type{Elem: t.Elem})}}
	case t.Elem == 'b':
		return api.Expr{Op: api.XTruth, N: int64(th.below(2))}
	}
	return api.Expr{Op: api.XNum, N: int64(th.below(9))}
}

// operator of n that makes such cells, and what it takes.
func (th *thrower) operator(makes byte, n int) (int, byte) {
	for {
		k := 1 + th.below(api.KNot)
		if takes, made, count := kinds.Op(k); made == makes && count == n {
			return k, takes
		}
	}
}

func (th *thrower) folding(elem byte) int {
	for {
		if k, takes := th.operator(elem, 2); takes == elem {
			return k
		}
	}
}

// expr is of that type, and of parts so far within one another.
func (th *thrower) expr(t api.Type, deep int) api.Expr {
	if deep == 0 || th.below(4) == 0 {
		return th.leaf(t)
	}
	parts := func(op, k int, types ...api.Type) api.Expr {
		e := api.Expr{Op: op, K: k}
		for _, part := range types {
			e.L = append(e.L, th.expr(part, deep-1))
		}
		return e
	}
	switch th.below(4) {
	case 0:
		return parts(api.XIf, 0, api.Type{Elem: 'b'}, t, t)
	case 1:
		return parts(api.XPre, 0, t, t)
	}
	if len(t.N) > 0 {
		return th.array(t, parts)
	}
	array := api.Type{Elem: t.Elem, N: th.of(th.cells())}
	switch th.below(3) {
	case 0:
		return parts(api.XIndex, 0, array, api.Type{Elem: 'i'}, t)
	case 1:
		return parts(api.XFold, th.folding(t.Elem), t, array)
	}
	n := 1 + th.below(2)
	k, takes := th.operator(t.Elem, n)
	return parts([]int{api.XUn, api.XBin}[n-1], k, slices.Repeat([]api.Type{{Elem: takes}}, n)...)
}

func (th *thrower) array(t api.Type, parts func(op, k int, types ...api.Type) api.Expr) api.Expr {
	cell := api.Type{Elem: t.Elem}
	plus := func(n int) api.Type {
		return api.Type{Elem: t.Elem, N: append(slices.Clone(t.N), api.Term{N: int64(n)})}
	}
	switch th.below(6) {
	case 0:
		n := 1 + th.below(2)
		k, takes := th.operator(t.Elem, n)
		return parts(api.XMap, k, slices.Repeat([]api.Type{{Elem: takes, N: t.N}}, n)...)
	case 1:
		return parts(api.XScan, th.folding(t.Elem), cell, t)
	case 2:
		e := parts(api.XFill, 0, cell)
		e.S = []api.Size{t.N}
		return e
	case 3:
		from := th.below(3)
		e := parts(api.XSlice, 0, plus(from+th.below(2)))
		e.S = []api.Size{th.of(from), t.N}
		return e
	case 4:
		return parts(api.XWith, 0, t, api.Type{Elem: 'i'}, cell)
	}
	front := 1 + th.below(max(1, th.about(t.N)-1))
	return parts(api.XCat, 0, api.Type{Elem: t.Elem, N: api.Size{{N: int64(front)}}}, plus(-front))
}

// call adds an equation that calls a node above, and locals for what it makes.
func (th *thrower) call(above []api.Node) {
	called := pick(&th.dice, above)
	q := api.Eq{Node: called.Name}
	for _, name := range called.Sizes {
		q.S = append(q.S, th.of(max(0, th.likely[called.Name][name]+[]int{0, 0, 0, 1, 2, -1}[th.below(6)])))
	}
	put := func(d api.Decl) api.Type {
		n, _ := size.With(d.T.N, called.Sizes, q.S)
		return api.Type{Elem: d.T.Elem, N: n}
	}
	for _, d := range called.In {
		q.E = append(q.E, th.expr(put(d), 1))
	}
	for _, d := range called.Out {
		name := fmt.Sprint("v", len(th.node.Local))
		th.node.Local = append(th.node.Local, api.Decl{Name: name, T: put(d)})
		q.Names = append(q.Names, name)
	}
	th.node.Eqs = append(th.node.Eqs, q)
}

func (th *thrower) someDecls(front string, least int) []api.Decl {
	var list []api.Decl
	for i := range least + th.below(3) {
		list = append(list, api.Decl{Name: fmt.Sprint(front, i), T: th.kind()})
	}
	return list
}

func (th *thrower) makeNode(name string, above []api.Node) api.Node {
	th.node = api.Node{Name: name}
	th.numbers = map[string]int{"n": th.below(5), "m": 1 + th.below(6), "k": 3}
	th.likely[name] = th.numbers
	if name != "main" {
		th.node.Sizes = [][]string{nil, {"n"}, {"m", "n"}, {"n", "k", "m"}}[th.below(4)]
	}
	th.node.In, th.node.Out, th.node.Local = th.someDecls("a", 0), th.someDecls("y", 1), th.someDecls("v", 0)
	toMake := slices.Concat(th.node.Out, th.node.Local)
	for range th.below(th.calls + 1) {
		if len(above) > 0 && len(th.node.Local) < 24 {
			th.call(above)
		}
	}
	for _, d := range toMake {
		th.node.Eqs = append(th.node.Eqs, api.Eq{Names: []string{d.Name}, E: []api.Expr{th.expr(d.T, 2)}})
	}
	for i := range th.node.Eqs {
		j := th.below(i + 1)
		th.node.Eqs[i], th.node.Eqs[j] = th.node.Eqs[j], th.node.Eqs[i]
	}
	return th.node
}

// program has main behind some nodes; others may stand behind it.
func (th *thrower) program() api.Program {
	th.likely = map[string]map[string]int{}
	ahead, behind := th.below(6), th.below(10)/8
	var nodes []api.Node
	for i := range ahead + 1 + behind {
		name := fmt.Sprint("f", i)
		if i == ahead {
			name = "main"
		}
		nodes = append(nodes, th.makeNode(name, nodes))
	}
	return api.Program{Nodes: nodes}
}

func thrown(i int) api.Program {
	th := &thrower{dice: dice(i), rare: []int{1 << 30, 1000, 150, 60}[i%4], calls: []int{2, 4, 9}[i%3]}
	return th.program()
}

// P6: many programs, held against the chapter's words.
func TestThrown(t *testing.T) {
	seen, calls := map[int]int{}, 0
	for i := range 10000 {
		p := thrown(i)
		want, wantFault := saidMake(p)
		got, fault := Make(p)
		if fault != wantFault || told(got) != told(want) {
			text, _ := render.Print(p)
			t.Fatalf("thrown %d: %v, fault %v, want %v, fault %v: %s", i, got, fault, want, wantFault, text)
		}
		seen[fault.Code]++
		if fault.Code == 0 && len(got.Vars) > 100 {
			calls++
		}
	}
	for _, code := range []int{0, api.ErrSize, api.ErrMany, api.ErrRange} {
		if seen[code] < 100 {
			t.Errorf("the code %d was wanted %d times alone", code, seen[code])
		}
	}
	if seen[0] < 3000 || calls < 300 {
		t.Errorf("%d programs alone were right, %d of them large", seen[0], calls)
	}
}
