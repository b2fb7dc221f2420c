package place

import (
	"fmt"
	"slices"
	"testing"

	"loomwork/api"
	"loomwork/order"
	"loomwork/sys"
)

// outside are numbers that no variable has where there are so many.
func outside(count int) []int { return []int{-1, -count, count, 1 << 32, greatest, least} }

// right is a sorted system, the last of whose variables nobody makes.
func right() api.System {
	return api.System{Vars: types("i i3 i3 i3 i i i"), In: []int{0, 1}, Out: []int{4, 0, 5}, Rules: []api.Rule{
		each(2, arr(1, 0), sca(0), bin(api.KAdd)),
		each(3, arr(2, 0), api.Push{Op: api.PUn, K: api.KNeg}),
		{Op: api.QFoldE, K: api.KAdd, Out: 4, N: 3, A: []int{0}, E: []api.Push{arr(3, 0)}},
		pre(5, 0, 4),
	}}
}

// wrong changes the right system, and asks for sys.Check's fault of what it becomes; and
// of the same with its rules turned round, which is not sorted: that is told of systems
// alone.
func wrong(t *testing.T, what string, code, at int, change func(s *api.System)) {
	t.Helper()
	s := right()
	change(&s)
	wantSame(t, what+": Check", sys.Check(s), api.Fault{Code: code, At: at})
	wantFault(t, what, s, code, at)
	slices.Reverse(s.Rules)
	turned := sys.Check(s)
	if turned.Code == 0 {
		t.Errorf("%s: turned round it is right", what)
	}
	wantFault(t, what+", turned round", s, turned.Code, turned.At)
}

// P13: each fault of sys.Check is told by Make, with nothing beside it.
func TestFaults(t *testing.T) {
	wantPlan(t, "right", right(), []int{2, 3, 3, 3, 6, 3, -1}, []int{-1, -1, -1, 1}, 7)
	wrong(t, "variables", api.ErrMany, -1, func(s *api.System) { s.Vars = numbers(401) })
	wrong(t, "In", api.ErrMany, -1, func(s *api.System) { s.In = make([]int, 401) })
	wrong(t, "Out", api.ErrMany, -1, func(s *api.System) { s.Out = make([]int, 401) })
	wrong(t, "rules", api.ErrMany, -1, func(s *api.System) { s.Rules = make([]api.Rule, 401) })
	wrong(t, "Elem", api.ErrType, -4, func(s *api.System) { s.Vars[2].Elem = 'x' })
	wrong(t, "N", api.ErrSize, -5, func(s *api.System) { s.Vars[3].N = 301 })
	wrong(t, "N below", api.ErrSize, -8, func(s *api.System) { s.Vars[6].N = -1 })
	wrong(t, "In twice", api.ErrTwice, -1, func(s *api.System) { s.In = []int{0, 1, 0} })
	for _, v := range outside(7) {
		wrong(t, "In that is none", api.ErrRange, -1, func(s *api.System) { s.In = append(s.In, v) })
		wrong(t, "Out that is none", api.ErrRange, -1, func(s *api.System) { s.Out[1] = v })
		wrong(t, "Out of a rule", api.ErrRange, 2, func(s *api.System) { s.Rules[2].Out = v })
		wrong(t, "V", api.ErrRange, 1, func(s *api.System) { s.Rules[1].E[0].V = v })
		wrong(t, "A", api.ErrRange, 2, func(s *api.System) { s.Rules[2].A[0] = v })
		wrong(t, "A of a QPre", api.ErrRange, 3, func(s *api.System) { s.Rules[3].A[0] = v })
		wrong(t, "the other A of a QPre", api.ErrRange, 3, func(s *api.System) { s.Rules[3].A[1] = v })
	}
	wrong(t, "In is made", api.ErrTwice, 2, func(s *api.System) { s.Rules[2].Out = 0 })
	wrong(t, "made twice", api.ErrTwice, 3, func(s *api.System) { s.Rules[3].Out = 4 })
	for _, op := range []int{0, -1, 17, greatest, least} {
		wrong(t, "no Op", api.ErrForm, 1, func(s *api.System) { s.Rules[1].Op = op })
	}
	wrong(t, "more A", api.ErrForm, 1, func(s *api.System) { s.Rules[1].A = []int{0} })
	wrong(t, "less A", api.ErrForm, 2, func(s *api.System) { s.Rules[2].A = nil })
	wrong(t, "a QPre of one", api.ErrForm, 3, func(s *api.System) { s.Rules[3].A = []int{0} })
	wrong(t, "a QPre of none", api.ErrForm, 3, func(s *api.System) { s.Rules[3].A = nil })
	wrong(t, "a QPre of three", api.ErrForm, 3, func(s *api.System) { s.Rules[3].A = []int{0, 4, 4} })
	wrong(t, "steps", api.ErrMany, 1, func(s *api.System) { s.Rules[1].E = make([]api.Push, 25) })
	wrong(t, "no steps", api.ErrType, 0, func(s *api.System) { s.Rules[0].E = nil })
	wrong(t, "a step that takes more", api.ErrType, 1, func(s *api.System) { s.Rules[1].E[1].Op = api.PSel })
	wrong(t, "a cell that is none", api.ErrType, 1, func(s *api.System) { s.Rules[1].E[0].N = 1 })
	wrong(t, "types", api.ErrType, 3, func(s *api.System) { s.Rules[3].A[1] = 1 })
	wrong(t, "what nobody makes", api.ErrNone, 0, func(s *api.System) { s.Rules[0].E[1].V = 6 })
	wrong(t, "what nobody makes, in the row ahead", api.ErrNone, 3, func(s *api.System) { s.Rules[3].A[1] = 6 })
	wrong(t, "Out that nobody makes", api.ErrNone, -1, func(s *api.System) { s.Out[0] = 6 })
}

// eachOrder hands over all orders of so many numbers.
func eachOrder(count int, take func(numbers []int)) {
	numbers := upTo(0, count)
	var from func(at int)
	from = func(at int) {
		if at == count {
			take(slices.Clone(numbers))
			return
		}
		for i := at; i < count; i++ {
			numbers[at], numbers[i] = numbers[i], numbers[at]
			from(at + 1)
			numbers[at], numbers[i] = numbers[i], numbers[at]
		}
	}
	from(0)
}

// P13: ErrRound at -1 of rules that stand in another order: of a chain there is one
// order that is right.
func TestOtherOrder(t *testing.T) {
	const text = "+0 :0 :0=1 :0=2 :0=3 :0~4 >5"
	chain := read(text).Rules
	orders := 0
	eachOrder(len(chain), func(numbers []int) {
		s := read(text)
		for i, number := range numbers {
			s.Rules[i] = chain[number]
		}
		if slices.IsSorted(numbers) {
			wantRead(t, text, "1 1 1 1 1 2", 3)
		} else {
			wantFault(t, fmt.Sprint("chain ", numbers), s, api.ErrRound, -1)
			sorted, _ := order.Sort(s)
			wantSame(t, "sorted", asked(sorted), asked(read(text)))
		}
		orders++
	})
	if orders != 120 {
		t.Errorf("%d orders", orders)
	}
}

// P13: ErrRound at -1 of rules that need one another, wherever they stand, also if there
// are more cells than there may be.
func TestRound(t *testing.T) {
	for _, rules := range [][]api.Rule{
		{copies(0, 0)},
		{copies(0, 1), copies(1, 0)},
		{each(0, sca(1)), each(1, sca(2)), each(2, sca(0))},
		{number(0, 1), copies(2, 2), number(1, 3)},
		{pre(0, 0, 0)},
		{pre(0, 1, 2), number(2, 1), copies(1, 0)},
	} {
		s := api.System{Vars: numbers(3), Rules: rules}
		_, fault := order.Sort(s)
		wantSame(t, "Sort's code", fault.Code, api.ErrRound)
		wantFault(t, fmt.Sprint(rules), s, api.ErrRound, -1)
		for range 30 {
			s.In = append(s.In, len(s.Vars))
			s.Vars = append(s.Vars, types("i300")...)
		}
		wantFault(t, fmt.Sprint("many cells and ", rules), s, api.ErrRound, -1)
	}
}

// P13: the faults of live.Spans are told ahead of ErrMany.
func TestFaultsAhead(t *testing.T) {
	s := full(6300)
	s.Out = []int{21}
	wantFault(t, "Check's", s, api.ErrRange, -1)
	s.Out = nil
	wantFault(t, "many cells", s, api.ErrMany, -1)
	s.Vars = append(s.Vars, types("i i")...)
	s.Rules = []api.Rule{copies(21, 22), number(22, 1)}
	wantFault(t, "not sorted", s, api.ErrRound, -1)
	s.Rules[1].A = []int{0}
	wantFault(t, "no rule", s, api.ErrForm, 1)
}
