package build

import (
	"fmt"
	"slices"
	"testing"

	"loomwork/api"
	"loomwork/kinds"
	"loomwork/order"
	"loomwork/place"
	"loomwork/sys"
)

// thrower throws systems in their normal form that are sorted.
type thrower struct {
	dice
	api.System
	ready []int // what is In, or made by a rule ahead
}

func (th *thrower) kind() api.Var {
	v := api.Var{Elem: "iib"[th.below(3)]}
	if th.below(5) > 1 {
		v.N = pick(&th.dice, []int{1, 1, 2, 2, 3, 3, 4, 5})
	}
	if th.below(80) == 0 {
		v.N = pick(&th.dice, []int{299, 300})
	}
	return v
}

// among answers one of those variables of which it is so; -1: there is none.
func (th *thrower) among(variables []int, isSo func(v api.Var) bool) int {
	first := th.below(len(variables) + 1)
	for i := range variables {
		if v := variables[(first+i)%len(variables)]; isSo(th.Vars[v]) {
			return v
		}
	}
	return -1
}

func (th *thrower) like(want api.Var) int {
	return th.among(th.ready, func(v api.Var) bool { return v == want })
}

// leaf is a step that takes none.
func (th *thrower) leaf(elem byte, cells int) api.Push {
	scalar := th.like(api.Var{Elem: elem})
	array := th.among(th.ready, func(v api.Var) bool { return v.Elem == elem && v.N >= cells })
	switch kind := th.below(8); {
	case kind < 3 && scalar >= 0:
		return sca(scalar)
	case kind < 6 && array >= 0:
		return arr(array, int64(th.below(th.Vars[array].N-cells+1)))
	case kind == 6 && elem == 'i':
		return idx(pick(&th.dice, []int64{0, 1, 2, -1, 1000000, -1000000}))
	case elem == 'i':
		return num(pick(&th.dice, []int64{0, 1, 2, 3, -1, -2, 7, least, greatest}))
	}
	return truth(int64(th.below(2)))
}

// tree makes that Elem in each of so many cells.
func (th *thrower) tree(elem byte, cells, most int) []api.Push {
	kind := th.below(6)
	array := th.among(th.ready, func(v api.Var) bool { return v.Elem == elem && v.N > 0 })
	switch {
	case most >= 7 && kind == 0:
		choice := append(th.tree('b', cells, most/3-1), th.tree(elem, cells, most/3)...)
		return append(append(choice, th.tree(elem, cells, most/3)...), api.Push{Op: api.PSel})
	case most >= 3 && kind == 1 && array >= 0:
		both := append(th.tree('i', cells, most/2), th.tree(elem, cells, most/2)...)
		return append(both, at(array, 0))
	case most >= 3 && kind <= 3:
		return th.operated(elem, cells, most)
	}
	return []api.Push{th.leaf(elem, cells)}
}

func (th *thrower) operated(elem byte, cells, most int) []api.Push {
	for {
		k := 1 + th.below(api.KNot)
		takes, makes, n := kinds.Op(k)
		if makes != elem {
			continue
		}
		tree := th.tree(takes, cells, most/2-1)
		if n == 1 {
			return append(tree, api.Push{Op: api.PUn, K: k})
		}
		return append(append(tree, th.tree(takes, cells, most/2-1)...), bin(k))
	}
}

func (th *thrower) folding(elem byte) int {
	if elem == 'b' {
		return pick(&th.dice, []int{api.KAnd, api.KOr, api.KXor})
	}
	return pick(&th.dice, upTo(api.KAdd, api.KMax+1))
}

// rule makes the variable out; it is a QEach where there is nothing for another one.
func (th *thrower) rule(out int) api.Rule {
	v := th.Vars[out]
	scalar, same := th.like(api.Var{Elem: v.Elem}), th.like(v)
	switch kind := th.below(7); {
	case kind <= 1 && same >= 0:
		return pre(out, same, -1)
	case kind <= 3 && scalar >= 0 && v.N == 0:
		n := 1 + th.below(5)
		return api.Rule{Op: api.QFoldE, K: th.folding(v.Elem), Out: out, N: int64(n), A: []int{scalar}, E: th.tree(v.Elem, n, 12)}
	case kind <= 3 && scalar >= 0:
		return api.Rule{Op: api.QScanE, K: th.folding(v.Elem), Out: out, A: []int{scalar}, E: th.tree(v.Elem, v.N, 12)}
	case kind == 4 && v.N > 1:
		first := th.among(th.ready, func(u api.Var) bool { return u.Elem == v.Elem && u.N > 0 && u.N < v.N })
		if first >= 0 {
			if then := th.like(api.Var{Elem: v.Elem, N: v.N - th.Vars[first].N}); then >= 0 {
				return cat(out, first, then)
			}
		}
	}
	return api.Rule{Op: api.QEach, Out: out, E: th.tree(v.Elem, max(1, v.N), 20)}
}

// thrown is a sorted system in its normal form of so many rules at most, whose variables
// have numbers in any order; one of them is neither In nor made.
func thrown(i, most int) api.System {
	th := &thrower{dice: dice(i)}
	given := th.below(7)
	for out := range given + th.below(most+1) {
		th.Vars = append(th.Vars, th.kind())
		if out < given {
			th.In = append(th.In, out)
		} else {
			th.Rules = append(th.Rules, th.rule(out))
		}
		th.ready = append(th.ready, out)
	}
	for _, r := range th.Rules {
		if r.Op == api.QPre {
			r.A[1] = th.like(th.Vars[r.Out])
		}
	}
	for range th.below(min(5, len(th.Vars)+1)) {
		th.Out = append(th.Out, th.below(len(th.Vars)))
	}
	th.Vars = append(th.Vars, pick(&th.dice, types("i b i300 b2")))
	return renamed(&th.dice, th.System)
}

// placesOf are the places of a rule where it names a variable.
func placesOf(r *api.Rule) []*int {
	var places []*int
	for i := range r.A {
		places = append(places, &r.A[i])
	}
	for i := range r.E {
		if slices.Contains([]int{api.PSca, api.PArr, api.PAt}, r.E[i].Op) {
			places = append(places, &r.E[i].V)
		}
	}
	return places
}

// renamed is the system with other numbers for its variables, and In in another order.
func renamed(d *dice, s api.System) api.System {
	names := upTo(0, len(s.Vars))
	shuffle(d, names)
	vars := make([]api.Var, len(s.Vars))
	for v, name := range names {
		vars[name] = s.Vars[v]
	}
	s.Vars = vars
	shuffle(d, s.In)
	for _, list := range [][]int{s.In, s.Out} {
		for i := range list {
			list[i] = names[list[i]]
		}
	}
	for i := range s.Rules {
		r := &s.Rules[i]
		r.Out = names[r.Out]
		for _, place := range placesOf(r) {
			*place = names[*place]
		}
	}
	return s
}

// strange is the system with something in fields that are not looked at.
func strange(d *dice, s api.System) api.System {
	rules := slices.Clone(s.Rules)
	for i := range rules {
		r := order.Own(rules[i])
		for j := range r.E {
			p := &r.E[j]
			if !slices.Contains([]int{api.PNum, api.PUn, api.PBin}, p.Op) {
				p.K = d.below(30) - 9
			}
			if !slices.Contains([]int{api.PSca, api.PArr, api.PAt}, p.Op) {
				p.V = d.below(30) - 9
			}
			if !slices.Contains([]int{api.PNum, api.PArr, api.PIdx}, p.Op) {
				p.N = int64(d.below(30) - 9)
			}
		}
		switch r.Op {
		case api.QEach:
			r.K, r.N = d.below(30)-9, int64(d.below(30)-9)
		case api.QScanE:
			r.N = int64(d.below(30) - 9)
		case api.QCat, api.QPre:
			r.K, r.N, r.E = d.below(30)-9, int64(d.below(30)-9), tree("a-9 s999 sel")
		}
		rules[i] = r
	}
	s.Rules = rules
	return s
}

func cellsOf(v api.Var) int { return max(1, v.N) }

// apart is a plan in which all things lie apart, in any order, with room between them.
func apart(d *dice, s api.System) api.Plan {
	p := api.Plan{At: slices.Repeat([]int{-1}, len(s.Vars)), Keep: slices.Repeat([]int{-7}, len(s.Rules))}
	type thing struct {
		place *int
		cells int
	}
	var things []thing
	for _, v := range s.In {
		things = append(things, thing{&p.At[v], cellsOf(s.Vars[v])})
	}
	for i, r := range s.Rules {
		things = append(things, thing{&p.At[r.Out], cellsOf(s.Vars[r.Out])})
		if r.Op == api.QPre {
			things = append(things, thing{&p.Keep[i], cellsOf(s.Vars[r.Out])})
		}
	}
	shuffle(d, things)
	p.Cells = 1 + d.below(3)
	for _, one := range things {
		*one.place = p.Cells
		p.Cells += one.cells + d.below(2)*d.below(4)
	}
	return p
}

// anywhere is a plan in which things lie over one another.
func anywhere(d *dice, s api.System) api.Plan {
	p := api.Plan{At: slices.Repeat([]int{-1}, len(s.Vars)), Cells: 301 + d.below(40)}
	for v, of := range s.Vars {
		p.At[v] = 1 + d.below(p.Cells-cellsOf(of))
	}
	for _, r := range s.Rules {
		keep := -1 - d.below(2)*d.below(9)
		if r.Op == api.QPre {
			keep = 1 + d.below(p.Cells-cellsOf(s.Vars[r.Out]))
		}
		p.Keep = append(p.Keep, keep)
	}
	return p
}

// slipped is a plan with some number, or length, that may be wrong.
func slipped(d *dice, p api.Plan) api.Plan {
	p.At, p.Keep = slices.Clone(p.At), slices.Clone(p.Keep)
	number := pick(d, []int{-1, 0, 1, p.Cells - 1, p.Cells, p.Cells - 2, p.Cells - 3, p.Cells - 300, least, greatest, d.below(p.Cells + 1)})
	switch kind := d.below(8); {
	case kind == 0:
		p.Cells = pick(d, []int{0, -1, 1, p.Cells - 1, p.Cells + 1, 6000, 6001, least, greatest, d.below(p.Cells + 1)})
	case kind == 1:
		p.At = append(p.At, number)
	case kind == 2:
		p.Keep = append(p.Keep, number)
	case kind == 3 && len(p.Keep) > 0:
		p.Keep = p.Keep[1:]
	case kind <= 5 && len(p.Keep) > 0:
		p.Keep[d.below(len(p.Keep))] = number
	default:
		p.At[d.below(len(p.At))] = number
	}
	return p
}

// P15: thrown systems, with plans that fit and plans that do not, held against the
// chapter's words.
func TestThrown(t *testing.T) {
	codes, ops, pushes := map[int]int{}, map[int]int{}, map[int]int{}
	for i := range 5000 {
		s, d := thrown(i, 14), dice(i)
		wantSame(t, fmt.Sprint("thrown ", i, " is a system"), sys.Check(s), api.Fault{})
		plans := []api.Plan{apart(&d, s), anywhere(&d, s)}
		if p, fault := place.Make(s); fault.Code == 0 {
			plans = append(plans, p)
		}
		for j, p := range plans {
			codes[holdAgainstSaid(t, fmt.Sprint("thrown ", i, ", plan ", j), s, p)]++
			codes[holdAgainstSaid(t, fmt.Sprint("thrown ", i, ", strange, plan ", j), strange(&d, s), p)]++
			for range 4 {
				codes[holdAgainstSaid(t, fmt.Sprint("thrown ", i, ", plan ", j, " slipped"), s, slipped(&d, p))]++
			}
		}
		if t.Failed() {
			t.Fatalf("%.3000s", plain(s))
		}
		for _, r := range s.Rules {
			ops[r.Op]++
			for _, p := range r.E {
				pushes[p.Op]++
			}
		}
	}
	if codes[0] < 25000 || codes[api.ErrRange] < 15000 {
		t.Errorf("codes: %v", codes)
	}
	for op := api.QCat; op <= api.QScanE; op++ {
		if ops[op] < 500 {
			t.Errorf("the Op %d was seen %d times alone", op, ops[op])
		}
	}
	for op := api.PNum; op <= api.PAt; op++ {
		if pushes[op] < 1000 {
			t.Errorf("the step %d was seen %d times alone", op, pushes[op])
		}
	}
}
