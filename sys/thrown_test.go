package sys

import (
	"slices"
	"testing"

	"loomwork/api"
	"loomwork/kinds"
)

// thrower throws systems that are right.
type thrower struct {
	dice
	api.System
}

func (th *thrower) kind() api.Var {
	v := api.Var{Elem: "ib"[th.below(2)]}
	if th.below(2) == 0 {
		v.N = pick(&th.dice, []int{1, 2, 2, 3, 3, 4, 150, 299, 300})
	}
	return v
}

// variable answers one of that type; if there is none, one more, which is In.
func (th *thrower) variable(want api.Var) int {
	first := th.below(len(th.Vars) + 1)
	for i := range th.Vars {
		if v := (first + i) % len(th.Vars); th.Vars[v] == want {
			return v
		}
	}
	th.Vars = append(th.Vars, want)
	th.In = append(th.In, len(th.Vars)-1)
	return len(th.Vars) - 1
}

func (th *thrower) variables(wants ...api.Var) []int {
	var list []int
	for _, want := range wants {
		list = append(list, th.variable(want))
	}
	return list
}

// operator of n that makes that Elem.
func (th *thrower) operator(makes byte, n int) (k int, takes byte) {
	for {
		k := 1 + th.below(api.KNot)
		if takes, made, count := kinds.Op(k); made == makes && count == n {
			return k, takes
		}
	}
}

func (th *thrower) folding(elem byte) int {
	for {
		if k, takes := th.operator(elem, 2); takes == elem {
			return k
		}
	}
}

// rule makes the variable out.
func (th *thrower) rule(out int) api.Rule {
	v := th.Vars[out]
	cell := api.Var{Elem: v.Elem}
	r := api.Rule{Out: out}
	switch th.below(8) {
	case 0:
		r.Op, r.A = api.QCopy, th.variables(v)
	case 1:
		n := 1 + th.below(2)
		k, takes := th.operator(v.Elem, n)
		r.Op, r.K, r.A = api.QUn+n-1, k, th.variables(slices.Repeat([]api.Var{{Elem: takes, N: v.N}}, n)...)
	case 2:
		r.Op, r.A = api.QIf, th.variables(api.Var{Elem: 'b'}, v, v)
	case 3:
		r.Op, r.A = api.QPre, th.variables(v, v)
	case 4:
		r.Op, r.E = api.QEach, th.tree(v.Elem, max(1, v.N))
	default:
		if v.N == 0 {
			return th.ruleOfScalar(r, v)
		}
		return th.ruleOfArray(r, v, cell)
	}
	return r
}

func (th *thrower) ruleOfScalar(r api.Rule, v api.Var) api.Rule {
	array := api.Var{Elem: v.Elem, N: 1 + th.below(5)}
	switch th.below(4) {
	case 0:
		r.Op, r.N = api.QNum, int64(th.below(2))
	case 1:
		r.Op, r.K, r.A = api.QFold, th.folding(v.Elem), th.variables(v, array)
	case 2:
		r.Op, r.A = api.QIndex, th.variables(array, api.Var{Elem: 'i'}, v)
	default:
		n := pick(&th.dice, []int{1, 2, 3, 299, 300})
		r.Op, r.K, r.N, r.A, r.E = api.QFoldE, th.folding(v.Elem), int64(n), th.variables(v), th.tree(v.Elem, n)
	}
	return r
}

func (th *thrower) ruleOfArray(r api.Rule, v, cell api.Var) api.Rule {
	switch th.below(6) {
	case 0:
		r.Op, r.K, r.A = api.QScan, th.folding(v.Elem), th.variables(cell, v)
	case 1:
		r.Op, r.A = api.QWith, th.variables(v, api.Var{Elem: 'i'}, cell)
	case 2:
		more := th.below(min(3, api.MaxArray-v.N+1))
		r.Op, r.N, r.A = api.QSlice, int64(th.below(more+1)), th.variables(api.Var{Elem: v.Elem, N: v.N + more})
	case 3:
		if v.N > 1 {
			front := 1 + th.below(v.N-1)
			r.Op, r.A = api.QCat, th.variables(api.Var{Elem: v.Elem, N: front}, api.Var{Elem: v.Elem, N: v.N - front})
			return r
		}
		r.Op, r.A = api.QFill, th.variables(cell)
	case 4:
		r.Op, r.A = api.QFill, th.variables(cell)
	default:
		r.Op, r.K, r.A, r.E = api.QScanE, th.folding(v.Elem), th.variables(cell), th.tree(v.Elem, v.N)
	}
	return r
}

// tree makes that Elem in each of so many cells.
func (th *thrower) tree(elem byte, cells int) []api.Push {
	for {
		if steps := th.steps(elem, cells, 4); len(steps) <= api.MaxTree {
			return steps
		}
	}
}

func (th *thrower) steps(elem byte, cells, deep int) []api.Push {
	if deep == 0 || th.below(4) == 0 {
		return []api.Push{th.leaf(elem, cells)}
	}
	of := func(elem byte) []api.Push { return th.steps(elem, cells, deep-1) }
	switch th.below(5) {
	case 0:
		k, takes := th.operator(elem, 1)
		return append(of(takes), un(k))
	case 1:
		return slices.Concat(of('b'), of(elem), of(elem), []api.Push{sel()})
	case 2:
		array := th.variable(api.Var{Elem: elem, N: 1 + th.below(4)})
		return slices.Concat(of('i'), of(elem), []api.Push{at(array)})
	}
	k, takes := th.operator(elem, 2)
	return slices.Concat(of(takes), of(takes), []api.Push{bin(k)})
}

func (th *thrower) leaf(elem byte, cells int) api.Push {
	switch th.below(4) {
	case 0:
		return sca(th.variable(api.Var{Elem: elem}))
	case 1:
		more := th.below(min(3, api.MaxArray-cells+1))
		return arr(th.variable(api.Var{Elem: elem, N: cells + more}), int64(th.below(more+1)))
	case 2:
		if elem == 'i' {
			return idx(int64(pick(&th.dice, []int{0, 1, -1, 1000000, -1000000})))
		}
	}
	if elem == 'b' {
		return truthOf(int64(th.below(2)))
	}
	return num(pick(&th.dice, []int64{0, 1, -5, greatest, least}))
}

// thrown is a right system; its rules are in no order.
func thrown(i int) api.System {
	th := &thrower{dice: dice(i)}
	for range 1 + th.below(8) {
		th.Vars = append(th.Vars, th.kind())
	}
	for out := range len(th.Vars) {
		r := th.rule(out)
		at := th.below(len(th.Rules) + 1)
		th.Rules = slices.Insert(th.Rules, at, r)
		if th.below(3) == 0 {
			th.Out = append(th.Out, out)
		}
	}
	for _, v := range th.In {
		if th.below(4) == 0 {
			th.Out = append(th.Out, v)
		}
	}
	return th.System
}

// slip puts something else at one place of a system.
func slip(d *dice, s *api.System) {
	number := func() int {
		return pick(d, append(upTo(-1, len(s.Vars)+1), 299, 300, 301, 1000000, 1000001, -1000001, greatest, least))
	}
	switch d.below(10) {
	case 0:
		pickFrom(d, s.Vars).Elem = "ibx"[d.below(3)]
	case 1:
		pickFrom(d, s.Vars).N = pick(d, []int{-1, 0, 1, 2, 3, 4, 299, 300, 301})
	case 2:
		*pickFrom(d, s.In) = number()
	case 3:
		*pickFrom(d, s.Out) = number()
	case 4:
		at := d.below(len(s.Rules))
		s.Rules = slices.Delete(s.Rules, at, at+1)
	case 5:
		s.In = s.In[:d.below(len(s.In)+1)]
	default:
		slipInRule(d, pickFrom(d, s.Rules), number)
	}
}

func slipInRule(d *dice, r *api.Rule, number func() int) {
	switch d.below(9) {
	case 0:
		r.Op = d.below(18)
	case 1:
		r.K = d.below(16)
	case 2:
		r.Out = number()
	case 3:
		r.N = int64(pick(d, []int{-1, 0, 1, 2, 3, 300, 301, greatest, least}))
	case 4:
		r.A = append(r.A, number())
	case 5:
		*pickFrom(d, r.A) = number()
	case 6:
		step := api.Push{Op: d.below(10), K: d.below(16), V: number(), N: int64(number())}
		r.E = slices.Insert(r.E, d.below(len(r.E)+1), slices.Repeat([]api.Push{step}, pick(d, []int{1, 1, 1, api.MaxTree}))...)
	case 7:
		*pickFrom(d, r.E) = api.Push{Op: d.below(10), K: d.below(16), V: number(), N: int64(d.below(4))}
	default:
		p := pickFrom(d, r.E)
		p.V, p.N = number(), int64(pick(d, []int{-1, 0, 1, 2, 1000000, 1000001, greatest}))
	}
}

// pickFrom points at one of a list; of none at something that is nowhere.
func pickFrom[T any](d *dice, list []T) *T {
	if len(list) == 0 {
		return new(T)
	}
	return &list[d.below(len(list))]
}

// P7.1: systems that are right.
func TestThrownRight(t *testing.T) {
	seen, steps := map[int]int{}, map[int]int{}
	for i := range 5000 {
		s := thrown(i)
		wantRight(t, "thrown", s)
		if want := said(s); want.Code != 0 {
			t.Fatalf("thrown %d is not right: %v: %v", i, want, s)
		}
		for _, r := range s.Rules {
			seen[r.Op]++
			for _, p := range r.E {
				steps[p.Op]++
			}
		}
	}
	for op := api.QNum; op <= api.QScanE; op++ {
		if seen[op] < 200 {
			t.Errorf("the Op %d was seen %d times alone", op, seen[op])
		}
	}
	for op := api.PNum; op <= api.PAt; op++ {
		if steps[op] < 200 {
			t.Errorf("the step %d was seen %d times alone", op, steps[op])
		}
	}
}

// P7.1: systems with something put wrong, held against the chapter's words.
func TestThrownWrong(t *testing.T) {
	seen := map[int]int{}
	for i := range 60000 {
		s, d := thrown(i/6), dice(i)
		for range 1 + i%3 {
			if len(s.Rules) > 0 {
				slip(&d, &s)
			}
		}
		got, want := Check(s), said(s)
		if got != want {
			t.Fatalf("thrown %d: %v, want %v: %v", i, got, want, s)
		}
		seen[got.Code]++
	}
	for _, code := range []int{0, api.ErrType, api.ErrSize, api.ErrRange, api.ErrTwice, api.ErrForm, api.ErrNone, api.ErrMany} {
		if seen[code] < 50 {
			t.Errorf("the code %d was told %d times alone", code, seen[code])
		}
	}
}
