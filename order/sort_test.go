package order

import (
	"fmt"
	"slices"
	"testing"

	"loomwork/api"
)

// The chapter's examples.
func TestExamples(t *testing.T) {
	copies := func(out, of int) api.Rule { return api.Rule{Op: api.QCopy, Out: out, A: []int{of}} }
	const a, b, c = 0, 1, 2
	s := api.System{Vars: numbers(3), In: []int{c}, Out: []int{a}, Rules: []api.Rule{copies(a, b), copies(b, c)}}
	wantSorted(t, "a of b, b of c", s, 1, 0)
	s = api.System{Vars: numbers(2), Rules: []api.Rule{copies(a, b), copies(b, a)}}
	wantRound(t, "a of b, b of a", s, 0, 0, 1)
	s = api.System{Vars: numbers(3), In: []int{c}, Rules: []api.Rule{copies(a, b), pre(b, c, a)}}
	wantSorted(t, "with QPre between", s, 1, 0)
	s.Rules[0], s.Rules[1] = pre(a, c, b), copies(b, a)
	wantSorted(t, "with QPre ahead", s, 0, 1)
}

// P8.1: what has no rules, and what is sorted already.
func TestSortNothing(t *testing.T) {
	wantSorted(t, "nothing", api.System{})
	wantSorted(t, "empty lists", api.System{Vars: []api.Var{}, In: []int{}, Out: []int{}, Rules: []api.Rule{}})
	wantSorted(t, "no rules", api.System{Vars: types("i b3 b"), In: []int{2, 0}, Out: []int{0, 2, 0}})
	wantSorted(t, "one rule", read("0:"), 0)
	wantSorted(t, "one rule of In", read("0:1,2"), 0)
	wantSorted(t, "rules that need nothing", read("2: 0: 1:"), 0, 1, 2)
	wantSorted(t, "a row", read("3: 1:3 2:1,3 0:2,1"), 0, 1, 2, 3)
}

// P8.1: each time the first of those that can come: also one that was passed by
// and is behind no other one any more.
func TestSortFirst(t *testing.T) {
	wantSorted(t, "backward", read("0:1 1:2 2:3 3:4"), 3, 2, 1, 0)
	wantSorted(t, "back to the first after each", read("0:2 1: 2:1 3:"), 1, 2, 0, 3)
	wantSorted(t, "the first one waits for the last one", read("0:3 1: 2: 3:"), 1, 2, 3, 0)
	wantSorted(t, "two wait for one", read("0:2 1:2 2: 3:0"), 2, 0, 1, 3)
	wantSorted(t, "one waits for two", read("0:3,1 1: 2: 3:2"), 1, 2, 3, 0)
	wantSorted(t, "both wait for the last one, which waits", read("0:4,1 1:3 2:0 3: 4:1"), 3, 1, 4, 0, 2)
	wantSorted(t, "by rules, not by variables", read("3: 2: 1: 0:"), 0, 1, 2, 3)
	wantSorted(t, "by rules that wait, not by variables", read("3:0 2:0 1:0 0:"), 3, 0, 1, 2)
	wantSorted(t, "one of itself by QPre", read("0:1 1<2,0"), 1, 0)
	wantSorted(t, "QPre of itself", read("0<1,0"), 0)
	wantSorted(t, "QPre waits for A[0]", read("0<1,2 1:2 2<3,1"), 2, 1, 0)
}

// permutations hands each order of so many numbers to the function.
func permutations(count int, do func(numbers []int)) {
	var grow func(numbers []int)
	grow = func(numbers []int) {
		if len(numbers) == count {
			do(slices.Clone(numbers))
			return
		}
		for i := range count {
			if !slices.Contains(numbers, i) {
				grow(append(slices.Clone(numbers), i))
			}
		}
	}
	grow(nil)
}

// P8.1: rules in every order, held against the chapter's words.
func TestSortEveryOrder(t *testing.T) {
	texts := []string{
		"0:1 1:2 2:3 3:4 4:5", "0: 1: 2: 3: 4:", "0:1,2 1:3 2:3 3:4 4:", "0:1,2,3,4 1: 2: 3: 4:", "0:1 1: 2:3 3: 4:1,3",
		"0<1,2 1:2,5 2:3 3<4,0 4:", "0<5,4 1:0 2:1 3:2 4:3", "0:1 1:2 2:0 3: 4:3", "0:0 1: 2:1 3:0 4:3,2", "0:1 1:0 2:3 3:2 4:1,3",
	}
	for _, text := range texts {
		first := read(text)
		seen := 0
		permutations(len(first.Rules), func(numbers []int) {
			s := first
			s.Rules = nil
			for _, number := range numbers {
				s.Rules = append(s.Rules, first.Rules[number])
			}
			holdAgainstSaid(t, fmt.Sprint(text, " as ", numbers), s)
			seen++
		})
		if seen != 120 {
			t.Errorf("%d orders of five rules", seen)
		}
	}
}

// P8.1: ErrRound at the first rule that is left, not at the first one, nor at one
// of the round.
func TestErrRound(t *testing.T) {
	wantRound(t, "the first one", read("0:0 1:"), 0, 0)
	wantRound(t, "behind one that came", read("1: 0:0"), 1, 1)
	wantRound(t, "behind and ahead of some", read("0:4 1: 2:3 3:2 4:"), 2, 2, 3)
	wantRound(t, "one that the round keeps", read("0: 1:3 2: 3:4 4:3"), 1, 3, 4)
	wantRound(t, "those that need none of it come", read("0:1 1:6 2:3 3:4 4:3 5:0"), 2, 3, 4)
	wantRound(t, "the last one", read("0: 1:0 2:1 3:2,3"), 3, 3)
}

// outside are numbers that no variable has where there are so many.
func outside(count int) []int { return []int{-1, -count, count, 1 << 32, greatest, least} }

// P8: each fault of sys.Check is told by Sort and by Round, ahead of a round, with
// nothing else answered; and what has one is not sorted.
func TestFaults(t *testing.T) {
	for _, text := range []string{"0:1 1:4 2:1 3:", "0:1 1:0 2:4 3:"} {
		base := func() api.System {
			s := read(text)
			s.Out = []int{0, 4, 2}
			s.Vars = append(s.Vars, types("i")...) // nobody makes the last one
			return s
		}
		wrong := func(what string, code, at int, change func(s *api.System)) {
			t.Helper()
			s := base()
			change(&s)
			wantFault(t, text+": "+what, s, code, at)
		}
		wrong("variables", api.ErrMany, -1, func(s *api.System) { s.Vars = numbers(401) })
		wrong("In", api.ErrMany, -1, func(s *api.System) { s.In = make([]int, 401) })
		wrong("Out", api.ErrMany, -1, func(s *api.System) { s.Out = make([]int, 401) })
		wrong("rules", api.ErrMany, -1, func(s *api.System) { s.Rules = make([]api.Rule, 401) })
		wrong("Elem", api.ErrType, -4, func(s *api.System) { s.Vars[2].Elem = 'x' })
		wrong("N", api.ErrSize, -5, func(s *api.System) { s.Vars[3].N = 301 })
		wrong("In twice", api.ErrTwice, -1, func(s *api.System) { s.In = []int{4, 4} })
		for _, v := range outside(6) {
			wrong("In that is none", api.ErrRange, -1, func(s *api.System) { s.In = append(s.In, v) })
			wrong("Out that is none", api.ErrRange, -1, func(s *api.System) { s.Out[1] = v })
			wrong("Out of a rule", api.ErrRange, 2, func(s *api.System) { s.Rules[2].Out = v })
			wrong("V", api.ErrRange, 2, func(s *api.System) { s.Rules[2].E[1].V = v })
			wrong("A", api.ErrRange, 3, func(s *api.System) { s.Rules[3] = pre(3, 4, v) })
		}
		wrong("In is made", api.ErrTwice, 2, func(s *api.System) { s.Rules[2].Out = 4 })
		wrong("made twice", api.ErrTwice, 3, func(s *api.System) { s.Rules[3].Out = 1 })
		wrong("no Op", api.ErrForm, 1, func(s *api.System) { s.Rules[1].Op = 0 })
		wrong("more A", api.ErrForm, 1, func(s *api.System) { s.Rules[1].A = []int{0} })
		wrong("steps", api.ErrMany, 2, func(s *api.System) { s.Rules[2].E = make([]api.Push, 25) })
		wrong("types", api.ErrType, 3, func(s *api.System) { s.Rules[3].E = nil })
		wrong("what nobody makes", api.ErrNone, 2, func(s *api.System) { s.Rules[2].E[1].V = 5 })
		wrong("what nobody makes, in the row ahead", api.ErrNone, 3, func(s *api.System) { s.Rules[3] = pre(3, 4, 5) })
		wrong("Out that nobody makes", api.ErrNone, -1, func(s *api.System) { s.Out[0] = 5 })
	}
}

// P8: what sys.Check does not look at does not matter, and stays.
func TestOtherFields(t *testing.T) {
	s := api.System{Vars: types("i i3 i3"), In: []int{0}, Rules: []api.Rule{
		{Op: api.QCopy, K: -5, Out: 2, N: least, A: []int{1}, E: []api.Push{sca(2), arr(99, 1), at(-1), {Op: greatest, V: least}}},
		{Op: api.QFill, K: greatest, Out: 1, N: 7, A: []int{0}, E: slices.Repeat([]api.Push{sca(2)}, 100)},
	}}
	wantSorted(t, "steps of rules that have none", s, 1, 0)
	s.Rules[1].A, s.Rules[1].Op = []int{1, 2}, api.QPre
	wantRound(t, "QPre of itself", s, 0, 1)
	s.In, s.Rules[1].A = []int{0, 2}, []int{2, 1}
	s.Rules = s.Rules[1:]
	wantSorted(t, "QPre with steps", s, 0)
}
