package mean

import (
	"fmt"
	"slices"
	"testing"

	"loomwork/api"
	"loomwork/kinds"
)

// thrower throws systems that are right, and have no round: a rule needs only what
// is In, or what a rule that was thrown ahead of it makes.
type thrower struct {
	dice
	api.System
	ready []int
}

func (th *thrower) kind() api.Var {
	v := api.Var{Elem: "ib"[th.below(2)]}
	if th.below(2) == 0 {
		v.N = pick(&th.dice, []int{1, 2, 2, 3, 3, 4, 5, 6})
		if th.below(40) == 0 {
			v.N = pick(&th.dice, []int{150, 299, 300})
		}
	}
	return v
}

// variable answers one of that type that is ready; if there is none, one more,
// which is In.
func (th *thrower) variable(want api.Var) int {
	first := th.below(len(th.ready) + 1)
	for i := range th.ready {
		if v := th.ready[(first+i)%len(th.ready)]; th.Vars[v] == want {
			return v
		}
	}
	v := len(th.Vars)
	th.Vars, th.In, th.ready = append(th.Vars, want), append(th.In, v), append(th.ready, v)
	return v
}

func (th *thrower) variables(wants ...api.Var) []int {
	var list []int
	for _, want := range wants {
		list = append(list, th.variable(want))
	}
	return list
}

// later answers one of that type, be it ready or not.
func (th *thrower) later(want api.Var) int {
	first := th.below(len(th.Vars))
	for i := range th.Vars {
		if v := (first + i) % len(th.Vars); th.Vars[v] == want {
			return v
		}
	}
	panic("what the rule makes is one")
}

// operator of n that makes that Elem.
func (th *thrower) operator(makes byte, n int) (k int, takes byte) {
	for {
		k := 1 + th.below(api.KNot)
		if takes, made, count := kinds.Op(k); made == makes && count == n {
			return k, takes
		}
	}
}

func (th *thrower) folding(elem byte) int {
	for {
		if k, takes := th.operator(elem, 2); takes == elem {
			return k
		}
	}
}

// rule makes the variable out.
func (th *thrower) rule(out int) api.Rule {
	v := th.Vars[out]
	r := api.Rule{Out: out}
	switch th.below(8) {
	case 0:
		r.Op, r.A = api.QCopy, th.variables(v)
	case 1:
		n := 1 + th.below(2)
		k, takes := th.operator(v.Elem, n)
		r.Op, r.K, r.A = api.QUn+n-1, k, th.variables(slices.Repeat([]api.Var{{Elem: takes, N: v.N}}, n)...)
	case 2:
		r.Op, r.A = api.QIf, th.variables(api.Var{Elem: 'b'}, v, v)
	case 3:
		r.Op, r.A = api.QPre, []int{th.variable(v), th.later(v)}
	case 4:
		r.Op, r.E = api.QEach, th.tree(v.Elem, max(1, v.N))
	default:
		if v.N == 0 {
			return th.ruleOfScalar(r, v)
		}
		return th.ruleOfArray(r, v, api.Var{Elem: v.Elem})
	}
	return r
}

func (th *thrower) ruleOfScalar(r api.Rule, v api.Var) api.Rule {
	array := api.Var{Elem: v.Elem, N: 1 + th.below(5)}
	switch th.below(4) {
	case 0:
		r.Op, r.N = api.QNum, int64(th.below(2))
	case 1:
		r.Op, r.K, r.A = api.QFold, th.folding(v.Elem), th.variables(v, array)
	case 2:
		r.Op, r.A = api.QIndex, th.variables(array, api.Var{Elem: 'i'}, v)
	default:
		n := pick(&th.dice, []int{1, 2, 3, 4, 5})
		r.Op, r.K, r.N, r.A, r.E = api.QFoldE, th.folding(v.Elem), int64(n), th.variables(v), th.tree(v.Elem, n)
	}
	return r
}

func (th *thrower) ruleOfArray(r api.Rule, v, cell api.Var) api.Rule {
	switch th.below(6) {
	case 0:
		r.Op, r.K, r.A = api.QScan, th.folding(v.Elem), th.variables(cell, v)
	case 1:
		r.Op, r.A = api.QWith, th.variables(v, api.Var{Elem: 'i'}, cell)
	case 2:
		more := th.below(min(3, api.MaxArray-v.N+1))
		r.Op, r.N, r.A = api.QSlice, int64(th.below(more+1)), th.variables(api.Var{Elem: v.Elem, N: v.N + more})
	case 3:
		if v.N > 1 {
			front := 1 + th.below(v.N-1)
			r.Op, r.A = api.QCat, th.variables(api.Var{Elem: v.Elem, N: front}, api.Var{Elem: v.Elem, N: v.N - front})
			return r
		}
		r.Op, r.A = api.QFill, th.variables(cell)
	case 4:
		r.Op, r.A = api.QFill, th.variables(cell)
	default:
		r.Op, r.K, r.A, r.E = api.QScanE, th.folding(v.Elem), th.variables(cell), th.tree(v.Elem, v.N)
	}
	return r
}

// tree makes that Elem in each of so many cells.
func (th *thrower) tree(elem byte, cells int) []api.Push {
	for {
		if steps := th.steps(elem, cells, 4); len(steps) <= api.MaxTree {
			return steps
		}
	}
}

func (th *thrower) steps(elem byte, cells, deep int) []api.Push {
	if deep == 0 || th.below(4) == 0 {
		return []api.Push{th.leaf(elem, cells)}
	}
	of := func(elem byte) []api.Push { return th.steps(elem, cells, deep-1) }
	switch th.below(5) {
	case 0:
		k, takes := th.operator(elem, 1)
		return append(of(takes), un(k))
	case 1:
		return slices.Concat(of('b'), of(elem), of(elem), []api.Push{sel()})
	case 2:
		array := th.variable(api.Var{Elem: elem, N: 1 + th.below(4)})
		return slices.Concat(of('i'), of(elem), []api.Push{at(array)})
	}
	k, takes := th.operator(elem, 2)
	return slices.Concat(of(takes), of(takes), []api.Push{bin(k)})
}

func (th *thrower) leaf(elem byte, cells int) api.Push {
	switch th.below(4) {
	case 0:
		return sca(th.variable(api.Var{Elem: elem}))
	case 1:
		more := th.below(min(3, api.MaxArray-cells+1))
		return arr(th.variable(api.Var{Elem: elem, N: cells + more}), int64(th.below(more+1)))
	case 2:
		if elem == 'i' {
			return idx(int64(pick(&th.dice, []int{0, 0, 1, -1, -2, 1000000, -1000000})))
		}
	}
	if elem == 'b' {
		return truth(int64(th.below(2)))
	}
	return num(pick(&th.dice, []int64{0, 1, 2, -5, greatest, least}))
}

// thrown is a right system of so many rules at most; they are in no order, nor is
// what is In and Out.
func thrown(i, most int) api.System {
	th := &thrower{dice: dice(i)}
	for range 1 + th.below(most) {
		th.Vars = append(th.Vars, th.kind())
	}
	outs := upTo(0, len(th.Vars))
	shuffle(&th.dice, outs)
	for _, out := range outs {
		th.Rules = append(th.Rules, th.rule(out))
		th.ready = append(th.ready, out)
	}
	for v := range th.Vars {
		if v < len(outs) || th.below(4) == 0 {
			th.Out = append(th.Out, v)
		}
	}
	shuffle(&th.dice, th.Rules)
	shuffle(&th.dice, th.In)
	shuffle(&th.dice, th.Out)
	return th.System
}

// thrownRows are rows that a system may be given.
func thrownRows(d *dice, s api.System, count int) [][]int64 {
	var rows [][]int64
	for range count {
		row := []int64{}
		for _, v := range s.In {
			row = append(row, thrownCells(d, s.Vars[v])...)
		}
		rows = append(rows, row)
	}
	return rows
}

// P9.1: systems of all kinds of rules and steps, several rows long, held against
// the chapter's words.
func TestThrown(t *testing.T) {
	seen, steps := map[int]int{}, map[int]int{}
	for i := range 8000 {
		s, d := thrown(i, 9), dice(i)
		holdAgainstSaid(t, fmt.Sprint("thrown ", i), s, thrownRows(&d, s, 5))
		if t.Failed() {
			t.Fatalf("%.2000s", plain(s))
		}
		for _, r := range s.Rules {
			seen[r.Op]++
			for _, p := range r.E {
				steps[p.Op]++
			}
		}
	}
	for op := api.QNum; op <= api.QScanE; op++ {
		if seen[op] < 500 {
			t.Errorf("the Op %d was seen %d times alone", op, seen[op])
		}
	}
	for op := api.PNum; op <= api.PAt; op++ {
		if steps[op] < 500 {
			t.Errorf("the step %d was seen %d times alone", op, steps[op])
		}
	}
}

// P9.1: rows with a fault between the others change nothing of what these tell.
func TestThrownFaults(t *testing.T) {
	lengths, truths := 0, 0
	for i := range 4000 {
		s, d := thrown(i, 7), dice(i)
		rows := thrownRows(&d, s, 4)
		m, h := begun(t, s), historyOf(s, rows...)
		for at, row := range rows {
			for range d.below(3) {
				bad := slices.Clone(row)
				if places := placesOfTruths(s); len(places) > 0 && d.below(3) > 0 {
					first := d.below(len(places))
					bad[places[first]] = pick(&d, []int64{2, -1, greatest, least, 1 << 32})
					for _, later := range places[first+1:] {
						bad[later] = int64(d.below(4))
					}
					wantWrong(t, "a truth", m, bad, places[first])
					truths++
				} else {
					length := d.below(len(row) + 3)
					if length == len(row) {
						length++
					}
					wantWrong(t, "a length", m, append(bad, 0, 0, 0)[:length], -1)
					lengths++
				}
			}
			wantTold(t, fmt.Sprint("thrown ", i, " row ", at), m, row, h.told(at))
		}
		if t.Failed() {
			t.Fatalf("%.2000s", plain(s))
		}
	}
	if lengths < 3000 || truths < 3000 {
		t.Errorf("%d rows of a wrong length, %d with no truth", lengths, truths)
	}
}

// placesOfTruths are the places in a row where a truth stands.
func placesOfTruths(s api.System) []int {
	var places []int
	place := 0
	for _, v := range s.In {
		for range max(1, s.Vars[v].N) {
			if s.Vars[v].Elem == 'b' {
				places = append(places, place)
			}
			place++
		}
	}
	return places
}

// permutations hands each order of the numbers below count to the function.
func permutations(count int, do func(numbers []int)) {
	var longer func(front []int)
	longer = func(front []int) {
		if len(front) == count {
			do(front)
			return
		}
		for n := range count {
			if !slices.Contains(front, n) {
				longer(append(slices.Clone(front), n))
			}
		}
	}
	longer(nil)
}

// What follows: rules in every order tell the same.
func TestEveryOrder(t *testing.T) {
	s := over("i i3 b > i i3 i3 i i b", rule(api.QFold, api.KAdd, 3, 7, 5), rule(api.QScan, api.KSub, 4, 3, 1), pre(5, 1, 4),
		eachOf(6, sca(3), num(2), bin(api.KMul), idx(0), bin(api.KAdd)), pre(7, 0, 6), rule(api.QUn, api.KNot, 8, 2))
	var rows [][]int64
	for _, text := range []string{"1 2 3 4 0", "5 -6 7 8 1", "0 9 - + 1", "2 2 2 2 0"} {
		rows = append(rows, cells(text))
	}
	h := historyOf(s, rows...)
	count := 0
	permutations(len(s.Rules), func(numbers []int) {
		other := s
		other.Rules = nil
		for _, n := range numbers {
			other.Rules = append(other.Rules, s.Rules[n])
		}
		m := begun(t, other)
		for i, row := range rows {
			wantTold(t, fmt.Sprint("rules ", numbers), m, row, h.told(i))
		}
		count++
	})
	wantSame(t, "orders", count, 720)
}

// What follows: thrown systems tell the same with their rules in other orders.
func TestThrownOrders(t *testing.T) {
	for i := range 1500 {
		s, d := thrown(i, 12), dice(i)
		rows := thrownRows(&d, s, 3)
		var wants [][]int64
		m := begun(t, s)
		for _, row := range rows {
			told, _ := m.Row(row)
			wants = append(wants, told)
		}
		for range 4 {
			s.Rules = slices.Clone(s.Rules)
			shuffle(&d, s.Rules)
			m := begun(t, s)
			for at, row := range rows {
				wantTold(t, fmt.Sprint("thrown ", i), m, row, wants[at])
			}
		}
	}
}
