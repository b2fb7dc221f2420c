package build

import (
	"fmt"
	"reflect"
	"slices"
	"sync"
	"testing"

	"loomwork/api"
)

// whole answers a list with what lies behind its length.
func whole[T any](l []T) []T { return l[:cap(l)] }

// spare copies a list into one that has room behind its length, with something
// there.
func spare[T any](list []T, behind T) []T {
	long := append(make([]T, 0, len(list)+3), list...)
	for i := len(list); i < cap(long); i++ {
		whole(long)[i] = behind
	}
	return long
}

// asked is a system with a plan, and what is answered of them.
type asked struct {
	api.System
	api.Plan
}

func (a asked) answer() []any {
	l, bools, fault := Make(a.System, a.Plan)
	return []any{l, bools, fault}
}

// copied is the same in memory of its own, with a number behind each list.
func (a asked) copied(behind int) asked {
	a.Vars, a.In, a.Out = spare(a.Vars, api.Var{Elem: 'i', N: behind}), spare(a.In, behind), spare(a.Out, behind)
	a.Rules = spare(a.Rules, api.Rule{Op: api.QPre, Out: behind})
	for i := range a.Rules {
		r := &a.Rules[i]
		r.A, r.E = spare(r.A, behind), spare(r.E, sca(behind))
	}
	a.At, a.Keep = spare(a.At, behind), spare(a.Keep, behind)
	return a
}

// lists answers each list, with what lies behind it.
func (a asked) lists() []any {
	all := []any{whole(a.Vars), whole(a.In), whole(a.Out), whole(a.Rules), whole(a.At), whole(a.Keep)}
	for _, r := range a.Rules {
		all = append(all, whole(r.A), whole(r.E))
	}
	return all
}

// fill puts something else into all the memory that a list has.
func fill[T any](list []T, with T) {
	for i := range whole(list) {
		whole(list)[i] = with
	}
}

func (a asked) writeOver() {
	for _, r := range a.Rules {
		fill(r.A, -7)
		fill(r.E, api.Push{Op: -7})
	}
	for _, list := range [][]int{a.In, a.Out, a.At, a.Keep} {
		fill(list, -7)
	}
	fill(a.Vars, api.Var{Elem: '?', N: -7})
	fill(a.Rules, api.Rule{Op: -7})
}

// listsOf are the lists of an answer.
func listsOf(l api.Loops, bools []int) (ints [][]int, steps [][]api.Push) {
	ints = [][]int{l.Put, l.Get, bools}
	for _, step := range l.Steps {
		steps = append(steps, step.E, step.F)
	}
	return ints, steps
}

func writeOverAnswer(l api.Loops, bools []int) {
	ints, steps := listsOf(l, bools)
	for _, list := range ints {
		fill(list, -8)
	}
	for _, list := range steps {
		fill(list, api.Push{Op: -8})
	}
	fill(l.Steps, api.Loop{Op: -8})
}

// thrownAsked has a plan that fits, or that may not.
func thrownAsked(i, most int) asked {
	s, d := thrown(i, most), dice(i)
	switch i % 4 {
	case 0:
		return asked{s, anywhere(&d, s)}
	case 1:
		return asked{s, slipped(&d, apart(&d, s))}
	}
	return asked{strange(&d, s), apart(&d, s)}
}

// 'What holds everywhere': what is handed in stays as it was, also if what is
// answered is changed; what lies behind the lists is neither read nor written.
func TestHandedIn(t *testing.T) {
	for i := range 2000 {
		a := thrownAsked(i, 8)
		want := a.answer()
		for _, behind := range []int{0, 3, -1, greatest} {
			given, kept := a.copied(behind), a.copied(behind)
			wantSame(t, fmt.Sprint("thrown ", i, " with more behind the lists"), given.answer(), want)
			l, bools, _ := Make(given.System, given.Plan)
			writeOverAnswer(l, bools)
			if !reflect.DeepEqual(given.lists(), kept.lists()) {
				t.Fatalf("thrown %d: changed", i)
			}
			wantSame(t, "asked again", given.answer(), want)
		}
	}
}

// 'What holds everywhere': what is answered does not hang on what becomes of what
// was handed in, nor on what becomes of another answer.
func TestAnswerKept(t *testing.T) {
	for i := range 2000 {
		given := thrownAsked(i, 8).copied(5)
		got := given.answer()
		want := plain(got)
		l, bools, _ := Make(given.System, given.Plan)
		writeOverAnswer(l, bools)
		given.writeOver()
		if plain(got) != want {
			t.Fatalf("thrown %d: changed with what was handed in", i)
		}
	}
}

// wantApart writes over each of the lists, and asks that the others stay.
func wantApart[T comparable](t *testing.T, what string, other T, lists ...[]T) {
	t.Helper()
	var before [][]T
	for _, list := range lists {
		before = append(before, slices.Clone(whole(list)))
	}
	for i, list := range lists {
		fill(list, other)
		for j := range lists {
			if j != i && !slices.Equal(whole(lists[j]), before[j]) {
				t.Errorf("%s: the lists %d and %d share memory", what, i, j)
			}
		}
		copy(whole(list), before[i])
	}
}

// wantAllApart asks that no two lists of an answer share memory, nor one of them with
// what was handed in.
func wantAllApart(t *testing.T, what string, a asked) {
	t.Helper()
	l, bools := made(t, what, a.System, a.Plan)
	ints, steps := listsOf(l, bools)
	ints = append(ints, a.At, a.Keep, a.In, a.Out)
	for _, r := range a.Rules {
		ints, steps = append(ints, r.A), append(steps, r.E)
	}
	wantApart(t, what+": numbers", -7, ints...)
	wantApart(t, what+": steps of trees", api.Push{Op: -7}, steps...)
}

// 'What holds everywhere': no two lists of one answer share memory.
func TestListsApart(t *testing.T) {
	for i := range 1500 {
		s, d := thrown(i, 9), dice(i)
		wantAllApart(t, fmt.Sprint("thrown ", i), asked{s, apart(&d, s)})
	}
	s := with("b b2 b b2 b b2 b b2 b b4 b b2", each(2, "s0"), each(3, "a1"), foldE(api.KAnd, 4, 2, 0, "a1"),
		scanE(api.KAnd, 5, 0, "a1"), pre(6, 0, 0), pre(7, 1, 1), pre(8, 0, 0), cat(9, 1, 1), each(10, "s0"), each(11, "a1"))
	s.Out = slices.Clone(s.In)
	wantAllApart(t, "each kind", asked{s, lying(60, "1 2 4 5 7 8 10 11 13 14 20 21 > -1 -1 -1 -1 30 31 33 -1 -1 -1")})
}

// 'What holds everywhere': no two lists of one answer share memory, not even where those
// that were handed in do.
func TestShared(t *testing.T) {
	sharing := func() asked {
		list := []int{1, 2, 3, 4, 5}
		steps := tree("s1 s2 add 4 add")
		s := api.System{Vars: types("i i i i i i"), In: list[:2], Out: list, Rules: []api.Rule{
			{Op: api.QEach, Out: 3, A: list[:0], E: steps[:3]},
			{Op: api.QFoldE, K: api.KAdd, Out: 4, N: 2, A: list[:1], E: steps},
			{Op: api.QPre, Out: 5, A: list[:2], E: steps[:1]},
			{Op: api.QEach, Out: 0, E: steps},
		}}
		keep := []int{6, 1, 2, 3, 4, 5, -1, -1, 7, -1, -1}
		return asked{s, api.Plan{At: keep[:6], Keep: keep[6:10], Cells: 8}}
	}
	a := sharing()
	wantSteps(t, "shared", a.System, a.Plan,
		one(3, "s1 s2 add"), fold(api.KAdd, 4, 2, "s1", "s1 s2 add 4 add"), one(5, "s0 s7 s1 sel"), one(6, "s1 s2 add 4 add"), one(7, "s2"))
	l, bools := made(t, "shared", a.System, a.Plan)
	ints, steps := listsOf(l, bools)
	wantApart(t, "shared", -7, append(ints, a.Out, whole(a.At))...)
	wantApart(t, "shared", api.Push{Op: -7}, append(steps, a.Rules[1].E)...)
	wantSame(t, "what was handed in", a, sharing())
}

// 'What holds everywhere': what grows behind what was answered reaches nothing else.
func TestGrows(t *testing.T) {
	for i := range 500 {
		s, d := thrown(i, 9), dice(i)
		a := asked{s, apart(&d, s)}
		l, bools := made(t, "grows", a.System, a.Plan)
		want := plain(a.answer())
		for range 3 {
			_, _, _ = append(l.Put, -9), append(l.Get, -9), append(bools, -9)
			_ = append(l.Steps, api.Loop{Op: -9})
			for _, step := range l.Steps {
				_, _ = append(step.E, num(-9)), append(step.F, num(-9))
			}
		}
		wantSame(t, fmt.Sprint("thrown ", i), []any{l, bools, api.Fault{}}, a.answer())
		wantSame(t, fmt.Sprint("thrown ", i), want, plain(a.answer()))
	}
}

// P1: what is answered hangs on the arguments alone.
func TestAtOnce(t *testing.T) {
	var all []asked
	var wants []string
	for i := range 300 {
		a := thrownAsked(i, 10)
		all, wants = append(all, a), append(wants, plain(a.answer()))
	}
	var group sync.WaitGroup
	for range 4 {
		group.Go(func() {
			for i, a := range all {
				if got := plain(a.answer()); got != wants[i] {
					t.Errorf("system %d: %v, want %v", i, got, wants[i])
				}
			}
		})
	}
	group.Wait()
}
