package mean

import (
	"fmt"
	"slices"
	"testing"

	"loomwork/api"
	"loomwork/order"
	"loomwork/sys"
)

// P9: New tells each of sys.Check's faults, as order.Sort does.
func TestNoSystems(t *testing.T) {
	many := api.System{Vars: slices.Repeat(types("i"), api.MaxVars+1)}
	wantFault(t, "ErrMany", many, api.ErrMany, -1)
	wantFault(t, "ErrType of a variable", api.System{Vars: []api.Var{{Elem: 'i'}, {Elem: 'x'}}}, api.ErrType, -3)
	wantFault(t, "ErrSize", api.System{Vars: types("i i301")}, api.ErrSize, -3)
	wantFault(t, "ErrSize below 0", api.System{Vars: []api.Var{{Elem: 'i', N: -1}}}, api.ErrSize, -2)
	wantFault(t, "ErrRange of In", api.System{Vars: types("i"), In: []int{1}}, api.ErrRange, -1)
	wantFault(t, "ErrTwice of In", api.System{Vars: types("i"), In: []int{0, 0}}, api.ErrTwice, -1)
	wantFault(t, "ErrRange of Out", api.System{Vars: types("i"), Out: []int{-1}}, api.ErrRange, -1)
	wantFault(t, "ErrRange of a rule", over("i > i", number(2, 0)), api.ErrRange, 0)
	wantFault(t, "ErrTwice of a rule", over("i > i", number(1, 0), number(1, 0)), api.ErrTwice, 1)
	wantFault(t, "ErrTwice of what is In", over("i > i", number(0, 0)), api.ErrTwice, 0)
	wantFault(t, "ErrForm", over("i > i", rule(17, 0, 1)), api.ErrForm, 0)
	wantFault(t, "ErrForm of A", over("i > i", rule(api.QPre, 0, 1, 0)), api.ErrForm, 0)
	wantFault(t, "ErrMany of E", over("i > i", eachOf(1, make([]api.Push, api.MaxTree+1)...)), api.ErrMany, 0)
	wantFault(t, "ErrRange of A", over("i > i", rule(api.QCopy, 0, 1, 2)), api.ErrRange, 0)
	wantFault(t, "ErrRange of a step", over("i > i", eachOf(1, sca(-1))), api.ErrRange, 0)
	wantFault(t, "ErrType", over("i > b", rule(api.QCopy, 0, 1, 0)), api.ErrType, 0)
	wantFault(t, "ErrType of a step", over("i3 > i3", eachOf(1, arr(0, 1))), api.ErrType, 0)
	wantFault(t, "ErrNone", over("> i i", number(0, 1)), api.ErrNone, -1)
	wantFault(t, "ErrNone of a rule", api.System{Vars: types("i i i"), Rules: []api.Rule{number(0, 1), pre(1, 0, 2)}}, api.ErrNone, 1)
}

// P9: New tells ErrRound, at the first rule that no order helps.
func TestRounds(t *testing.T) {
	wantFault(t, "of itself", over("> i", rule(api.QCopy, 0, 0, 0)), api.ErrRound, 0)
	wantFault(t, "of two", over("> i i", rule(api.QCopy, 0, 0, 1), rule(api.QCopy, 0, 1, 0)), api.ErrRound, 0)
	wantFault(t, "behind one that can come", over("> i i i", number(0, 1), eachOf(1, sca(2)), rule(api.QUn, api.KNeg, 2, 1)), api.ErrRound, 1)
	wantFault(t, "A[0] of a QPre", over("i > i", pre(1, 1, 0)), api.ErrRound, 0)
	wantFault(t, "two QPre", over("i > i i", pre(1, 2, 0), pre(2, 1, 0)), api.ErrRound, 0)
	wantRows(t, "A[1] of a QPre", over("i > i i", pre(1, 0, 2), eachOf(2, sca(1), num(1), bin(api.KAdd))), "4 > 4 5", "4 > 5 6")
	wantRows(t, "steps of a rule without steps", over("i > i", api.Rule{Op: api.QCopy, Out: 1, A: []int{0}, E: []api.Push{sca(1)}}), "4 > 4")
}

// P9: the fault is order.Sort's, whatever is put wrong.
func TestFaultsOfSort(t *testing.T) {
	seen := map[int]int{}
	for i := range 30000 {
		s, d := thrown(i%3000, 6), dice(i)
		for range 1 + i%3 {
			slip(&d, &s)
		}
		_, want := order.Sort(s)
		m, got := New(s)
		if got != want || (m != nil) != (want == api.Fault{}) {
			t.Fatalf("thrown %d: %v, fault %v, want %v: %v", i, m, got, want, s)
		}
		if fault := sys.Check(s); fault.Code != 0 && got != fault {
			t.Fatalf("thrown %d: fault %v, sys.Check's %v", i, got, fault)
		}
		seen[got.Code]++
		if m != nil {
			rows := thrownRows(&d, s, 3)
			holdAgainstSaid(t, fmt.Sprint("thrown ", i), s, rows)
		}
		if t.Failed() {
			t.FailNow()
		}
	}
	for _, code := range []int{0, api.ErrType, api.ErrSize, api.ErrRange, api.ErrTwice, api.ErrForm, api.ErrNone, api.ErrMany, api.ErrRound} {
		if seen[code] < 50 {
			t.Errorf("the code %d was told %d times alone", code, seen[code])
		}
	}
}

// P9: Width of scalars, arrays, several, none, and of numbers that no variable has.
func TestWidth(t *testing.T) {
	s := api.System{Vars: types("i b i1 b1 i3 b300 i2")}
	for v, want := range []int{1, 1, 1, 1, 3, 300, 2} {
		wantSame(t, fmt.Sprint("variable ", v), Width(s, []int{v}), want)
	}
	wantSame(t, "scalars", Width(s, []int{0, 1}), 2)
	wantSame(t, "arrays", Width(s, []int{6, 4}), 5)
	wantSame(t, "both", Width(s, []int{4, 0, 6}), 6)
	wantSame(t, "all", Width(s, upTo(0, 7)), 309)
	wantSame(t, "one more than once", Width(s, []int{4, 0, 4, 4}), 10)
	wantSame(t, "none", []int{Width(s, nil), Width(s, []int{})}, []int{0, 0})
	for _, v := range []int{-1, -2, -7, 7, 8, 300, 1 << 32, 1<<32 + 4, -1 << 32, greatest, least} {
		wantSame(t, fmt.Sprint("no variable: ", v), Width(s, []int{v}), 0)
		wantSame(t, fmt.Sprint("among others: ", v), Width(s, []int{4, v, 6, v}), 5)
		wantSame(t, fmt.Sprint("of no variables: ", v), Width(api.System{}, []int{v}), 0)
	}
	wantSame(t, "of no variables", Width(api.System{}, []int{0, 1}), 0)
	wantSame(t, "often", Width(s, slices.Repeat([]int{5}, 1<<20)), 300<<20)
	most := api.System{Vars: slices.Repeat(types("i300"), api.MaxVars)}
	wantSame(t, "most", Width(most, upTo(0, api.MaxVars)), 120000)
}

// P9: Width asks nothing but the variables: what else is there may be no system.
func TestWidthOfNoSystem(t *testing.T) {
	s := api.System{Vars: types("x i301 i"), In: []int{7}, Out: []int{-1}, Rules: []api.Rule{{Op: 99}}}
	wantSame(t, "no system", []int{Width(s, []int{0}), Width(s, []int{1}), Width(s, []int{1, 2, 7})}, []int{1, 301, 302})
	for _, n := range []int{-1, -300, greatest, least} {
		s.Vars = append(s.Vars, api.Var{Elem: 'i', N: n})
		Width(s, upTo(-2, len(s.Vars)+2))
	}
}

// P9: a row has Width of In cells, and tells Width of Out.
func TestWidthOfRows(t *testing.T) {
	for i := range 2000 {
		s, d := thrown(i, 8), dice(i)
		m, row := begun(t, s), thrownRows(&d, s, 1)[0]
		got, fault := m.Row(row)
		wantSame(t, fmt.Sprint("thrown ", i), []any{len(row), len(got), fault}, []any{Width(s, s.In), Width(s, s.Out), api.Fault{}})
	}
}
