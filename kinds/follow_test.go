package kinds

import (
	"slices"
	"testing"

	"loomwork/api"
	"loomwork/render"
)

// The chapter's examples.
func TestExamples(t *testing.T) {
	wantRight(t, "node f<n>(a: int^n) -> (b: int^n + 1) { b = cat(a, fill(0, 1)); }"+aMain)
	wantWrong(t, "node f<n>(a: int^n) -> (b: int^n) { b = cat(a, fill(0, 1)); }"+aMain, api.ErrType, 0)
	wantWrong(t, "node f<n>(a: int^n) -> (b: int^n + 1) { b = cat(a, fill(0, 1)); }", api.ErrMain, -1)
	wantWrong(t, "node main(x: bool) -> (y: int) { y = x; }", api.ErrType, 0)
	wantWrong(t, "node main(x: int) -> (y: int) { x = x; y = x; }", api.ErrNone, 0)
}

// The document's own programs are right.
func TestDocumentPrograms(t *testing.T) {
	wantRight(t, "node main(x: int) -> (y: int) { y = x + pre(0, y); }")
	wantRight(t, "node main(x: int) -> (y: int) { var z: int; y = x + z; z = y - 1; }")
	wantRight(t, "node main(a: int^5, b: int^5) -> (s: int) { s = fold(add, 0, map(mul, a, b)); }")
	wantRight(t, "node main(q: bool^5) -> (w: bool^5) { w = with(q, 1, true); }")
}

// rightPrograms are thrown, until there are enough that are right.
func rightPrograms(count int) []api.Program {
	var list []api.Program
	for i := 0; len(list) < count; i++ {
		th := &thrower{dice: dice(i), rare: 1 << 30}
		if p := th.program(); Check(p).Code == 0 {
			list = append(list, p)
		}
	}
	return list
}

// moreNodes are right at the end of any program that calls none of them.
func moreNodes(t *testing.T) []api.Node {
	p := parsed(t, "node e1() -> (y: int) { y = 0; } "+
		"node e2<n, m>(a: int^n, b: bool) -> (y: int^n + m, z: bool) { var v: int; v = 1; y = cat(a, fill(v, m)); z = b; } "+
		"node e3<main>(f0: int^main) -> (y0: int) { y0 = fold(add, 0, f0); }")
	return p.Nodes
}

// What follows: a node more at the end changes nothing for the others, whatever
// is told of them.
func TestNodeMore(t *testing.T) {
	nodes := moreNodes(t)
	for i := range 4000 {
		th := &thrower{dice: dice(i), rare: []int{1 << 30, 150}[i%2]}
		p := th.program()
		want := Check(p)
		for _, n := range nodes {
			longer := api.Program{Nodes: append(slices.Clone(p.Nodes), n)}
			if render.Check(longer).Code != 0 {
				continue // its text is too long, or it was wrong ahead
			}
			if got := Check(longer); got != want {
				t.Fatalf("thrown %d: fault %v, with a node more %v", i, want, got)
			}
		}
	}
	wantWrong(t, "node f() -> (y: int) { y = 0; } node g() -> (y: int) { y = 0; }", api.ErrMain, -1)
}

// orders hands over each order of the numbers below count.
func orders(count int, do func(order []int)) {
	order := make([]int, count)
	for i := range order {
		order[i] = i
	}
	var from func(at int)
	from = func(at int) {
		if at == count {
			do(order)
			return
		}
		for i := at; i < count; i++ {
			order[at], order[i] = order[i], order[at]
			from(at + 1)
			order[at], order[i] = order[i], order[at]
		}
	}
	from(0)
}

// What follows: equations of a node in another order are right, too.
func TestEquationsInOrders(t *testing.T) {
	p := parsed(t, "node f<n>(a: int^n) -> (b: int^n, c: bool) { b = a; c = true; } "+
		"node main(x: int) -> (y: int^3, z: int) { var v: bool; var w: int; var u: int^3; "+
		"w = z + pre(x, w); u, v = call f<3>(y); y = scan(add, w, u); z = if v then fold(max, x, y) else w; }")
	eqs := p.Nodes[1].Eqs
	asked := 0
	orders(len(eqs), func(order []int) {
		other := api.Program{Nodes: slices.Clone(p.Nodes)}
		other.Nodes[1].Eqs = nil
		for _, at := range order {
			other.Nodes[1].Eqs = append(other.Nodes[1].Eqs, eqs[at])
		}
		wantFault(t, "equations in another order", other, 0, 0)
		asked++
	})
	if asked != 24 {
		t.Errorf("%d orders, not 24", asked)
	}
	d := dice(3)
	for _, p := range rightPrograms(1000) {
		for _, n := range p.Nodes {
			for i := range n.Eqs {
				j := d.below(i + 1)
				n.Eqs[i], n.Eqs[j] = n.Eqs[j], n.Eqs[i]
			}
		}
		wantFault(t, "equations shuffled", p, 0, 0)
	}
}
