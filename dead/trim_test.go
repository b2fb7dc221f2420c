package dead

import (
	"fmt"
	"slices"
	"testing"

	"loomwork/api"
)

// P10: variables stay, also those that nobody makes any more, and In and Out as they
// are.
func TestVariablesStay(t *testing.T) {
	s := api.System{Vars: types("b i300 i b2 i i b1"), In: []int{6, 3, 0}, Out: []int{4, 0, 4, 6}, Rules: []api.Rule{
		rule(api.QFill, 0, 1, 2), {Op: api.QNum, Out: 2, N: 7}, {Op: api.QNum, Out: 4, N: 8}, copies(5, 4)}}
	wantNeeded(t, "some", s, 2)
	s.Out = nil
	wantNeeded(t, "none", s)
	s.Out = []int{1, 5}
	wantNeeded(t, "all", s, 0, 1, 2, 3)
	s.In, s.Vars = append(s.In, 7, 9), append(s.Vars, types("i i3 b i")...)
	s.Out = []int{9, 2}
	wantNeeded(t, "variables that nobody has", s, 1)
}

// permutations hands each order of the numbers below count to the function.
func permutations(count int, do func(numbers []int)) {
	var longer func(front []int)
	longer = func(front []int) {
		if len(front) == count {
			do(front)
			return
		}
		for n := range count {
			if !slices.Contains(front, n) {
				longer(append(slices.Clone(front), n))
			}
		}
	}
	longer(nil)
}

// P10: the rules that are left stay in their order, whatever that is; which ones are
// left does not hang on it.
func TestEveryOrder(t *testing.T) {
	needed := map[string][]int{
		"0:1 1:2 2:3 3:4 4: >2":     {2, 3, 4},
		"0: 1: 2: 3: 4: >4,1":       {1, 4},
		"0:1,2 1:3 2:3 3: 4:0 >0":   {0, 1, 2, 3},
		"0<1,2 1: 2:3 3<2,4 4:3 >0": {0, 1, 2, 3, 4},
		"0<1,2 1: 2:1 3:0 4:3 >0":   {0, 1, 2},
		"0:1 1:0 2:3 3:2 4: >3,4":   {2, 3, 4},
	}
	for text, numbers := range needed {
		first := read(text)
		wantNeeded(t, text, first, numbers...)
		permutations(len(first.Rules), func(order []int) {
			var left []int
			for place, number := range order {
				if slices.Contains(numbers, number) {
					left = append(left, place)
				}
			}
			wantNeeded(t, fmt.Sprint(text, " as ", order), only(first, order...), left...)
		})
	}
}

// P10: of a rule that is left all its fields stay, those that it does not have, too.
func TestFieldsStay(t *testing.T) {
	s := api.System{Vars: types("i i3 i3 i"), In: []int{0}, Out: []int{2}, Rules: []api.Rule{
		{Op: api.QNum, K: 9, Out: 3, N: 4},
		{Op: api.QCopy, K: -5, Out: 2, N: least, A: []int{1}, E: []api.Push{sca(3), arr(99, 1), at(-1), {Op: greatest, K: 1, V: least, N: 2}}},
		{Op: api.QFill, K: greatest, Out: 1, N: 7, A: []int{0}, E: slices.Repeat([]api.Push{sca(2)}, 100)},
	}}
	wantNeeded(t, "fields", s, 1, 2)
}

// P1: as many rules as there may be: in a row, in a round, and one that needs as many
// as it can.
func TestMost(t *testing.T) {
	const most = api.MaxRules
	s := api.System{Vars: numbers(most), Out: []int{0}}
	for i := range most - 1 {
		s.Rules = append(s.Rules, sum(i, i+1))
	}
	s.Rules = append(s.Rules, sum(most-1))
	wantNeeded(t, "a row", s, upTo(0, most)...)
	s.Out = []int{150}
	wantNeeded(t, "half a row", s, upTo(150, most)...)
	s.Out = nil
	wantNeeded(t, "none of a row", s)
	s.Rules[most-1] = sum(most-1, 0)
	wantNeeded(t, "none of a round", s)
	s.Out = []int{most - 1}
	wantNeeded(t, "a round", s, upTo(0, most)...)
	slices.Reverse(s.Rules)
	s.Out = slices.Repeat([]int{7}, api.MaxVars)
	wantNeeded(t, "a round backward", s, upTo(0, most)...)
	s = api.System{Vars: numbers(most), Out: upTo(0, most)}
	for out := range most {
		var of []int
		for i := range 11 {
			of = append(of, (out*7+i*31)%most)
		}
		s.Rules = append(s.Rules, sum(out, of...))
	}
	wantNeeded(t, "all of many", s, upTo(0, most)...)
}

// outside are numbers that no variable has where there are so many.
func outside(count int) []int { return []int{-1, -count, count, 1 << 32, greatest, least} }

// P10: each fault of sys.Check is told by both, also if it is of a rule that is not
// needed.
func TestFaults(t *testing.T) {
	for _, text := range []string{"0:1 1:4 2:1 3: >0,4,2", "0:1 1:0 2:4 3: >3,3,3", "0: 1: 2:4 3:2 >0,1,4"} {
		wrong := func(what string, code, at int, change func(s *api.System)) {
			t.Helper()
			s := read(text)
			s.Vars = append(s.Vars, types("i")...) // nobody makes the last one
			change(&s)
			wantFault(t, text+": "+what, s, code, at)
		}
		wrong("variables", api.ErrMany, -1, func(s *api.System) { s.Vars = numbers(401) })
		wrong("In", api.ErrMany, -1, func(s *api.System) { s.In = make([]int, 401) })
		wrong("Out", api.ErrMany, -1, func(s *api.System) { s.Out = make([]int, 401) })
		wrong("rules", api.ErrMany, -1, func(s *api.System) { s.Rules = make([]api.Rule, 401) })
		wrong("Elem", api.ErrType, -4, func(s *api.System) { s.Vars[2].Elem = 'x' })
		wrong("N", api.ErrSize, -5, func(s *api.System) { s.Vars[3].N = 301 })
		wrong("N below", api.ErrSize, -7, func(s *api.System) { s.Vars[5].N = -1 })
		wrong("In twice", api.ErrTwice, -1, func(s *api.System) { s.In = []int{4, 4} })
		for _, v := range outside(6) {
			wrong("In that is none", api.ErrRange, -1, func(s *api.System) { s.In = append(s.In, v) })
			wrong("Out that is none", api.ErrRange, -1, func(s *api.System) { s.Out[1] = v })
			wrong("Out of a rule", api.ErrRange, 2, func(s *api.System) { s.Rules[2].Out = v })
			wrong("V", api.ErrRange, 2, func(s *api.System) { s.Rules[2].E[1].V = v })
			wrong("A", api.ErrRange, 3, func(s *api.System) { s.Rules[3] = pre(3, 4, v) })
		}
		wrong("In is made", api.ErrTwice, 2, func(s *api.System) { s.Rules[2].Out = 4 })
		wrong("made twice", api.ErrTwice, 3, func(s *api.System) { s.Rules[3].Out = 1 })
		wrong("no Op", api.ErrForm, 1, func(s *api.System) { s.Rules[1].Op = 0 })
		wrong("more A", api.ErrForm, 1, func(s *api.System) { s.Rules[1].A = []int{0} })
		wrong("steps", api.ErrMany, 2, func(s *api.System) { s.Rules[2].E = make([]api.Push, 25) })
		wrong("types", api.ErrType, 3, func(s *api.System) { s.Rules[3].E = nil })
		wrong("what nobody makes", api.ErrNone, 2, func(s *api.System) { s.Rules[2].E[1].V = 5 })
		wrong("what nobody makes, in the row ahead", api.ErrNone, 3, func(s *api.System) { s.Rules[3] = pre(3, 4, 5) })
		wrong("Out that nobody makes", api.ErrNone, -1, func(s *api.System) { s.Out[0] = 5 })
	}
}
