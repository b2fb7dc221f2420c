package order

import (
	"fmt"
	"reflect"
	"slices"
	"sync"
	"testing"

	"loomwork/api"
)

// whole answers a list with what lies behind its length.
func whole[T any](l []T) []T { return l[:cap(l)] }

// spare copies a list into one that has room behind its length, with something
// there.
func spare[T any](list []T, behind T) []T {
	long := append(make([]T, 0, len(list)+3), list...)
	for i := len(list); i < cap(long); i++ {
		whole(long)[i] = behind
	}
	return long
}

// copied is a system in memory of its own, with a number behind each list.
func copied(s api.System, behind int) api.System {
	s.Vars = spare(s.Vars, api.Var{Elem: 'i', N: behind})
	s.In, s.Out = spare(s.In, behind), spare(s.Out, behind)
	s.Rules = spare(s.Rules, api.Rule{Op: api.QNum, Out: behind})
	for i := range s.Rules {
		r := &s.Rules[i]
		r.A, r.E = spare(r.A, behind), spare(r.E, sca(behind))
	}
	return s
}

// listsOf answers each list of a system, with what lies behind it.
func listsOf(s api.System) []any {
	all := []any{whole(s.Vars), whole(s.In), whole(s.Out), whole(s.Rules)}
	for _, r := range s.Rules {
		all = append(all, whole(r.A), whole(r.E))
	}
	return all
}

// asked is all that is answered of a system.
func asked(s api.System) []any {
	sorted, fault := Sort(s)
	round, other := Round(s)
	all := []any{sorted, fault, round, other, Sorted(s)}
	for _, r := range s.Rules {
		all = append(all, Needs(r), Own(r))
	}
	return all
}

// writeOver puts something else into all the memory that a system has.
func writeOver(s api.System) {
	for _, r := range s.Rules {
		writeOverRule(r)
	}
	for i := range whole(s.Vars) {
		whole(s.Vars)[i] = api.Var{Elem: '?', N: -7}
	}
	for _, list := range [][]int{s.In, s.Out} {
		for i := range whole(list) {
			whole(list)[i] = -7
		}
	}
	for i := range whole(s.Rules) {
		whole(s.Rules)[i] = api.Rule{Op: -7}
	}
}

func writeOverRule(r api.Rule) {
	for i := range whole(r.A) {
		whole(r.A)[i] = -7
	}
	for i := range whole(r.E) {
		whole(r.E)[i] = api.Push{Op: -7}
	}
}

// 'What holds everywhere': what is handed in stays as it was, also if what is
// answered is changed; what lies behind the lists is neither read nor written.
func TestHandedIn(t *testing.T) {
	for i := range 3000 {
		s := thrown(i, 8)
		want := asked(s)
		for _, behind := range []int{0, -1, greatest} {
			given, kept := copied(s, behind), copied(s, behind)
			wantSame(t, fmt.Sprint("thrown ", i, " with more behind the lists"), asked(given), want)
			sorted, _ := Sort(given)
			writeOver(sorted)
			round, _ := Round(given)
			writeOver(api.System{In: round})
			for _, r := range given.Rules {
				writeOverRule(Own(r))
				writeOver(api.System{In: Needs(r)})
			}
			if !reflect.DeepEqual(listsOf(given), listsOf(kept)) {
				t.Fatalf("thrown %d: changed", i)
			}
			wantSame(t, "asked again", asked(given), want)
		}
	}
}

// 'What holds everywhere': what is answered does not hang on what becomes of what
// was handed in.
func TestKept(t *testing.T) {
	for i := range 1000 {
		given := copied(thrown(i, 8), 5)
		got := asked(given)
		want := plain(got)
		writeOver(given)
		if plain(got) != want {
			t.Fatalf("thrown %d: changed with what was handed in", i)
		}
	}
}

// wantApart writes over each of the lists, and asks that the others stay.
func wantApart[T comparable](t *testing.T, what string, other T, lists ...[]T) {
	t.Helper()
	var before [][]T
	for _, list := range lists {
		before = append(before, slices.Clone(whole(list)))
	}
	for i, list := range lists {
		for k := range whole(list) {
			whole(list)[k] = other
		}
		for j := range lists {
			if j != i && !slices.Equal(whole(lists[j]), before[j]) {
				t.Errorf("%s: the lists %d and %d share memory", what, i, j)
			}
		}
		copy(whole(list), before[i])
	}
}

// apart is a system in which lists share memory: A of rules, In and Out, and E.
func apart() api.System {
	list := []int{0, 1, 0, 1, 0}
	steps := []api.Push{sca(0), sca(1), {Op: api.PBin, K: api.KAdd}, num(4)}
	return api.System{Vars: numbers(6), In: list[:2], Out: list, Rules: []api.Rule{
		{Op: api.QBin, K: api.KAdd, Out: 2, A: list[:2], E: steps},
		{Op: api.QBin, K: api.KAdd, Out: 3, A: list[:2], E: steps[1:]},
		{Op: api.QPre, Out: 4, A: list[1:3], E: steps[:1]},
		{Op: api.QEach, Out: 5, A: list[2:2], E: steps[:3]},
	}}
}

// 'What holds everywhere': no two lists of one answer share memory, not even where
// those that were handed in do.
func TestShared(t *testing.T) {
	s := apart()
	wantSorted(t, "shared", s, 0, 1, 2, 3)
	got, _ := Sort(s)
	ints := [][]int{got.In, got.Out, s.Out}
	steps := [][]api.Push{s.Rules[0].E}
	for _, r := range got.Rules {
		ints, steps = append(ints, r.A), append(steps, r.E)
	}
	wantApart(t, "numbers", -7, ints...)
	wantApart(t, "steps", api.Push{Op: -7}, steps...)
	wantApart(t, "variables", api.Var{N: -7}, got.Vars, s.Vars)
	wantSame(t, "what was handed in", s, apart())
}

// P8: Own answers the same rule, all of its fields, in memory of its own.
func TestOwn(t *testing.T) {
	rules := []api.Rule{
		{}, {A: []int{}, E: []api.Push{}}, {Op: 1, K: 2, Out: 3, N: 4}, {Op: least, K: greatest, Out: least, N: least, A: []int{greatest, -1}, E: []api.Push{{Op: -1, K: least, V: greatest, N: 8}}},
		{Op: api.QPre, A: []int{4, 4, 1}, E: []api.Push{sca(9), {}, arr(2, 3)}}, {Op: api.QNum, A: make([]int, 1000), E: make([]api.Push, 1000)},
	}
	for i, r := range append(rules, everyKind()...) {
		what := fmt.Sprint("rule ", i)
		before := plain(r)
		got := Own(r)
		wantSame(t, what, got, r)
		wantApart(t, what, -7, got.A, r.A)
		wantApart(t, what, api.Push{Op: -7}, got.E, r.E)
		got.Op, got.K, got.Out, got.N = 70, 71, 72, 73
		got.A, got.E = append(got.A, 74), append(got.E, num(75))
		writeOverRule(got)
		wantSame(t, what+" as it was handed in", plain(r), before)
	}
}

// 'What holds everywhere': Own of a piece of a list takes that piece alone.
func TestOwnOfPieces(t *testing.T) {
	list := []int{1, 2, 3, 4}
	steps := []api.Push{sca(1), sca(2), sca(3)}
	got := Own(api.Rule{A: list[1:2], E: steps[:2]})
	wantSame(t, "a piece", got, api.Rule{A: []int{2}, E: []api.Push{sca(1), sca(2)}})
	got.A, got.E = append(got.A, 9), append(got.E, sca(9))
	wantSame(t, "what lies behind", []any{list, steps}, []any{[]int{1, 2, 3, 4}, []api.Push{sca(1), sca(2), sca(3)}})
	got = Own(api.Rule{A: list[2:2], E: steps[1:1]})
	got.A, got.E = append(got.A, 9), append(got.E, sca(9))
	wantSame(t, "of nothing", []any{list, steps}, []any{[]int{1, 2, 3, 4}, []api.Push{sca(1), sca(2), sca(3)}})
}

// P1: what is answered hangs on the arguments alone.
func TestAtOnce(t *testing.T) {
	var systems []api.System
	var wants []string
	for i := range 300 {
		s := thrown(i, 10)
		systems, wants = append(systems, s), append(wants, plain(asked(s)))
	}
	var group sync.WaitGroup
	for range 4 {
		group.Go(func() {
			for i, s := range systems {
				if got := plain(asked(s)); got != wants[i] {
					t.Errorf("system %d: %v, want %v", i, got, wants[i])
				}
			}
		})
	}
	group.Wait()
}
