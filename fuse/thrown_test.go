package fuse

import (
	"slices"

	"loomwork/api"
	"loomwork/kinds"
)

// thrower throws systems that are right, and have no round: a rule needs only what
// is In, or what a rule that was thrown ahead of it makes.
type thrower struct {
	dice
	api.System
	ready  []int
	unused []int // of what is ready and made, what no rule uses yet
}

func (th *thrower) kind() api.Var {
	v := api.Var{Elem: "iiiib"[th.below(5)]}
	if th.below(5) > 1 {
		v.N = pick(&th.dice, []int{1, 2, 3, 3, 3, 3, 4, 5})
		if th.below(60) == 0 {
			v.N = pick(&th.dice, []int{299, 300})
		}
	}
	return v
}

// variable answers one of that type that is ready, mostly one that no rule uses yet;
// if there is none, one more, which is In.
func (th *thrower) variable(want api.Var) int {
	if th.below(7) > 0 {
		for i, v := range th.unused {
			if th.Vars[v] == want {
				th.unused = slices.Delete(th.unused, i, i+1)
				return v
			}
		}
	}
	first := th.below(len(th.ready) + 1)
	for i := range th.ready {
		if v := th.ready[(first+i)%len(th.ready)]; th.Vars[v] == want {
			return v
		}
	}
	v := len(th.Vars)
	th.Vars, th.In, th.ready = append(th.Vars, want), append(th.In, v), append(th.ready, v)
	return v
}

func (th *thrower) variables(wants ...api.Var) []int {
	var list []int
	for _, want := range wants {
		list = append(list, th.variable(want))
	}
	return list
}

// longer answers an array of so many cells at least, mostly one that no rule uses
// yet.
func (th *thrower) longer(elem byte, cells int) int {
	for _, v := range th.unused {
		if array := th.Vars[v]; array.Elem == elem && array.N >= cells && th.below(4) > 0 {
			return th.variable(array)
		}
	}
	return th.variable(api.Var{Elem: elem, N: cells + th.below(min(3, api.MaxArray-cells+1))})
}

// later answers one of that type, be it ready or not.
func (th *thrower) later(want api.Var) int {
	first := th.below(len(th.Vars))
	for i := range th.Vars {
		if v := (first + i) % len(th.Vars); th.Vars[v] == want {
			return v
		}
	}
	panic("what the rule makes is one")
}

// operator of n that makes that Elem.
func (th *thrower) operator(makes byte, n int) (k int, takes byte) {
	for {
		k := 1 + th.below(api.KNot)
		if takes, made, count := kinds.Op(k); made == makes && count == n {
			return k, takes
		}
	}
}

func (th *thrower) folding(elem byte) int {
	for {
		if k, takes := th.operator(elem, 2); takes == elem {
			return k
		}
	}
}

// rule makes the variable out.
func (th *thrower) rule(out int) api.Rule {
	v := th.Vars[out]
	r := api.Rule{Out: out}
	switch th.below(10) {
	case 0:
		r.Op, r.A = api.QCopy, th.variables(v)
	case 1:
		n := 1 + th.below(2)
		k, takes := th.operator(v.Elem, n)
		r.Op, r.K, r.A = api.QUn+n-1, k, th.variables(slices.Repeat([]api.Var{{Elem: takes, N: v.N}}, n)...)
	case 2:
		r.Op, r.A = api.QIf, th.variables(api.Var{Elem: 'b'}, v, v)
	case 3:
		r.Op, r.A = api.QPre, []int{th.variable(v), th.later(v)}
	case 4, 5, 6:
		r.Op, r.E = api.QEach, th.tree(v.Elem, max(1, v.N))
	default:
		if v.N == 0 {
			return th.ruleOfScalar(r, v)
		}
		return th.ruleOfArray(r, v, api.Var{Elem: v.Elem})
	}
	return r
}

func (th *thrower) ruleOfScalar(r api.Rule, v api.Var) api.Rule {
	cells := 1 + th.below(5)
	switch th.below(4) {
	case 0:
		r.Op, r.N = api.QNum, int64(th.below(2))
	case 1:
		r.Op, r.K, r.A = api.QFold, th.folding(v.Elem), append(th.variables(v), th.longer(v.Elem, cells))
	case 2:
		r.Op, r.A = api.QIndex, append([]int{th.longer(v.Elem, cells)}, th.variables(api.Var{Elem: 'i'}, v)...)
	default:
		r.Op, r.K, r.N, r.A, r.E = api.QFoldE, th.folding(v.Elem), int64(cells), th.variables(v), th.tree(v.Elem, cells)
	}
	return r
}

func (th *thrower) ruleOfArray(r api.Rule, v, cell api.Var) api.Rule {
	switch th.below(6) {
	case 0:
		r.Op, r.K, r.A = api.QScan, th.folding(v.Elem), th.variables(cell, v)
	case 1:
		r.Op, r.A = api.QWith, th.variables(v, api.Var{Elem: 'i'}, cell)
	case 2:
		r.Op, r.A = api.QSlice, []int{th.longer(v.Elem, v.N)}
		r.N = int64(th.below(th.Vars[r.A[0]].N - v.N + 1))
	case 3:
		if v.N > 1 {
			front := 1 + th.below(v.N-1)
			r.Op, r.A = api.QCat, th.variables(api.Var{Elem: v.Elem, N: front}, api.Var{Elem: v.Elem, N: v.N - front})
			return r
		}
		r.Op, r.A = api.QFill, th.variables(cell)
	case 4:
		r.Op, r.A = api.QFill, th.variables(cell)
	default:
		r.Op, r.K, r.A, r.E = api.QScanE, th.folding(v.Elem), th.variables(cell), th.tree(v.Elem, v.N)
	}
	return r
}

// tree makes that Elem in each of so many cells.
func (th *thrower) tree(elem byte, cells int) []api.Push {
	for {
		if steps := th.steps(elem, cells, pick(&th.dice, []int{1, 2, 2, 3, 4})); len(steps) <= api.MaxTree {
			return steps
		}
	}
}

func (th *thrower) steps(elem byte, cells, deep int) []api.Push {
	if deep == 0 || th.below(5) == 0 {
		return []api.Push{th.leaf(elem, cells)}
	}
	of := func(elem byte) []api.Push { return th.steps(elem, cells, deep-1) }
	switch th.below(6) {
	case 0:
		k, takes := th.operator(elem, 1)
		return append(of(takes), un(k))
	case 1:
		return slices.Concat(of('b'), of(elem), of(elem), []api.Push{sel()})
	case 2:
		array := th.longer(elem, 1+th.below(4))
		return slices.Concat(of('i'), of(elem), []api.Push{at(array)})
	}
	k, takes := th.operator(elem, 2)
	return slices.Concat(of(takes), of(takes), []api.Push{bin(k)})
}

func (th *thrower) leaf(elem byte, cells int) api.Push {
	switch th.below(5) {
	case 0:
		return sca(th.variable(api.Var{Elem: elem}))
	case 1, 2:
		array := th.longer(elem, cells)
		return arr(array, int64(th.below(th.Vars[array].N-cells+1)))
	case 3:
		if elem == 'i' {
			return idx(int64(pick(&th.dice, []int{0, 1, -2, 999998, 999999, 1000000, 1000000, -1000000})))
		}
	}
	if elem == 'b' {
		return truth(int64(th.below(2)))
	}
	return num(pick(&th.dice, []int64{0, 1, 2, -5, greatest, least}))
}

// litter puts something into fields that rules and steps do not have.
func (th *thrower) litter() {
	some := func() int { return pick(&th.dice, append(upTo(-1, len(th.Vars)+1), 1000001, greatest, least)) }
	for i := range th.Rules {
		r := &th.Rules[i]
		if !hasK(r.Op) {
			r.K = some()
		}
		if !hasN(r.Op) {
			r.N = int64(some())
		}
		if r.Op < api.QEach {
			for range th.below(4) {
				r.E = append(r.E, api.Push{Op: th.below(10), K: some(), V: some(), N: int64(some())})
			}
			continue
		}
		for i := range r.E {
			p := &r.E[i]
			if !slices.Contains([]int{api.PNum, api.PUn, api.PBin}, p.Op) {
				p.K = some()
			}
			if !slices.Contains([]int{api.PSca, api.PArr, api.PAt}, p.Op) {
				p.V = some()
			}
			if !slices.Contains([]int{api.PNum, api.PArr, api.PIdx}, p.Op) {
				p.N = int64(some())
			}
		}
	}
}

// thrown is a right system of so many rules at most, of all kinds; most of them are
// in an order in which they can be reckoned, every third one in none; every other one
// has something in fields that rules do not have.
func thrown(i, most int) api.System {
	th := &thrower{dice: dice(i)}
	for range 1 + th.below(most) {
		th.Vars = append(th.Vars, th.kind())
	}
	outs := upTo(0, len(th.Vars))
	shuffle(&th.dice, outs)
	for _, out := range outs {
		th.Rules = append(th.Rules, th.rule(out))
		th.ready, th.unused = append(th.ready, out), append(th.unused, out)
	}
	for v := range th.Vars {
		if slices.Contains(th.unused, v) && th.below(4) > 0 || th.below(12) == 0 {
			th.Out = append(th.Out, v)
		}
	}
	if i%3 == 0 {
		shuffle(&th.dice, th.Rules)
	}
	shuffle(&th.dice, th.In)
	shuffle(&th.dice, th.Out)
	if i%2 == 0 {
		th.litter()
	}
	return th.System
}
