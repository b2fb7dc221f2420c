package fuse

import (
	"fmt"
	"reflect"
	"slices"
	"sync"
	"testing"

	"loomwork/api"
)

// whole answers a list with what lies behind its length.
func whole[T any](l []T) []T { return l[:cap(l)] }

// spare copies a list into one that has room behind its length, with something
// there.
func spare[T any](list []T, behind T) []T {
	long := append(make([]T, 0, len(list)+3), list...)
	for i := len(list); i < cap(long); i++ {
		whole(long)[i] = behind
	}
	return long
}

// copied is a system in memory of its own, with a number behind each list.
func copied(s api.System, behind int) api.System {
	s.Vars = spare(s.Vars, api.Var{Elem: 'i', N: behind})
	s.In, s.Out = spare(s.In, behind), spare(s.Out, behind)
	s.Rules = spare(s.Rules, each(behind, sca(behind)))
	for i := range s.Rules {
		r := &s.Rules[i]
		r.A, r.E = spare(r.A, behind), spare(r.E, sca(behind))
	}
	return s
}

// listsOf answers each list of a system, with what lies behind it.
func listsOf(s api.System) []any {
	all := []any{whole(s.Vars), whole(s.In), whole(s.Out), whole(s.Rules)}
	for _, r := range s.Rules {
		all = append(all, whole(r.A), whole(r.E))
	}
	return all
}

// asked is all that is answered of a system.
func asked(s api.System) []any {
	normal, fault := Norm(s)
	fused, other := Fuse(s)
	return []any{normal, fault, fused, other}
}

// fill puts something else into all the memory that a list has.
func fill[T any](list []T, with T) {
	for i := range whole(list) {
		whole(list)[i] = with
	}
}

func writeOver(s api.System) {
	for _, r := range s.Rules {
		fill(r.A, -7)
		fill(r.E, api.Push{Op: -7})
	}
	fill(s.Vars, api.Var{Elem: '?', N: -7})
	fill(s.In, -7)
	fill(s.Out, -7)
	fill(s.Rules, api.Rule{Op: -7})
}

// 'What holds everywhere': what is handed in stays as it was, also if what is
// answered is changed; what lies behind the lists is neither read nor written.
func TestHandedIn(t *testing.T) {
	for i := range 2500 {
		s := thrown(i, 9)
		want := asked(s)
		for _, behind := range []int{0, 3, -1, greatest} {
			given, kept := copied(s, behind), copied(s, behind)
			wantSame(t, fmt.Sprint("thrown ", i, " with more behind the lists"), asked(given), want)
			for _, call := range []func(api.System) (api.System, api.Fault){Norm, Fuse} {
				got, _ := call(given)
				writeOver(got)
				if !reflect.DeepEqual(listsOf(given), listsOf(kept)) {
					t.Fatalf("thrown %d: changed", i)
				}
			}
			wantSame(t, "asked again", asked(given), want)
		}
	}
}

// 'What holds everywhere': what is answered does not hang on what becomes of what
// was handed in.
func TestKept(t *testing.T) {
	for i := range 2000 {
		given := copied(thrown(i, 9), 5)
		got := asked(given)
		want := plain(got)
		writeOver(given)
		if plain(got) != want {
			t.Fatalf("thrown %d: changed with what was handed in", i)
		}
	}
}

// wantApart writes over each of the lists, and asks that the others stay.
func wantApart[T comparable](t *testing.T, what string, other T, lists ...[]T) {
	t.Helper()
	var before [][]T
	for _, list := range lists {
		before = append(before, slices.Clone(whole(list)))
	}
	for i, list := range lists {
		fill(list, other)
		for j := range lists {
			if j != i && !slices.Equal(whole(lists[j]), before[j]) {
				t.Errorf("%s: the lists %d and %d share memory", what, i, j)
			}
		}
		copy(whole(list), before[i])
	}
}

// wantAllApart asks that no two lists of an answer share memory, nor one of them with
// the others, which were handed in.
func wantAllApart(t *testing.T, what string, got api.System, ints [][]int, steps [][]api.Push, vars []api.Var) {
	t.Helper()
	ints = append(ints, got.In, got.Out)
	for _, r := range got.Rules {
		ints, steps = append(ints, r.A), append(steps, r.E)
	}
	wantApart(t, what+": numbers", -7, ints...)
	wantApart(t, what+": steps", api.Push{Op: -7}, steps...)
	wantApart(t, what+": variables", api.Var{N: -7}, got.Vars, vars)
}

// sharing is a system in which lists share memory: A of rules, In and Out, and E.
func sharing() api.System {
	list := []int{0, 1, 2, 3, 4, 5}
	steps := []api.Push{sca(0), sca(1), add(), num(4), add()}
	return api.System{Vars: types("i i i i i i i i i"), In: list[:2], Out: list, Rules: []api.Rule{
		{Op: api.QBin, K: api.KAdd, Out: 2, A: list[:2], E: steps},
		{Op: api.QEach, Out: 6, E: steps[:3]},
		{Op: api.QBin, K: api.KAdd, Out: 3, A: list[:2], E: steps[1:]},
		{Op: api.QPre, Out: 4, A: list[1:3], E: steps[:1]},
		{Op: api.QEach, Out: 5, A: list[2:2], E: steps[:5]},
		{Op: api.QFoldE, K: api.KAdd, Out: 7, N: 2, A: list[:1], E: steps[:3]},
		{Op: api.QEach, Out: 8, E: []api.Push{sca(6), un(api.KNeg)}},
	}}
}

// 'What holds everywhere': no two lists of one answer share memory, not even where
// those that were handed in do.
func TestShared(t *testing.T) {
	wantSame(t, "how many rules go", len(sharing().Rules)-len(fusedOf(t, "shared", sharing()).Rules), 1)
	for _, call := range []func(api.System) (api.System, api.Fault){Norm, Fuse} {
		s := sharing()
		got, fault := call(s)
		wantSame(t, "fault", fault, api.Fault{})
		wantAllApart(t, "shared", got, [][]int{s.Out}, [][]api.Push{s.Rules[0].E}, s.Vars)
		wantSame(t, "what was handed in", s, sharing())
	}
	for i := range 2000 {
		s := thrown(i, 9)
		for _, call := range []func(api.System) (api.System, api.Fault){Norm, Fuse} {
			got, _ := call(s)
			wantAllApart(t, fmt.Sprint("thrown ", i), got, nil, nil, s.Vars)
		}
	}
}

// 'What holds everywhere': what grows behind what was answered reaches nothing else.
func TestGrows(t *testing.T) {
	s := sharing()
	list := []int{0, 1, 77, 78}
	s.In, s.Out = list[:2], list[1:2]
	s.Rules = append(s.Rules, api.Rule{Op: 99})[:len(s.Rules)]
	for _, call := range []func(api.System) (api.System, api.Fault){Norm, Fuse} {
		got, fault := call(s)
		wantSame(t, "fault", fault, api.Fault{})
		got.In, got.Out = append(got.In, 9), append(got.Out, 9)
		got.Vars, got.Rules = append(got.Vars, api.Var{}), append(got.Rules, api.Rule{})
		for i := range got.Rules {
			got.Rules[i].A, got.Rules[i].E = append(got.Rules[i].A, -9), append(got.Rules[i].E, api.Push{Op: -9})
		}
		wantSame(t, "what lies behind", []any{list, whole(s.Rules)[len(s.Rules)].Op}, []any{[]int{0, 1, 77, 78}, 99})
		wantSame(t, "what was handed in", s.Rules, sharing().Rules)
	}
}

// P1: what is answered hangs on the arguments alone.
func TestAtOnce(t *testing.T) {
	var systems []api.System
	var wants []string
	for i := range 300 {
		s := thrown(i, 10)
		systems, wants = append(systems, s), append(wants, plain(asked(s)))
	}
	var group sync.WaitGroup
	for range 4 {
		group.Go(func() {
			for i, s := range systems {
				if got := plain(asked(s)); got != wants[i] {
					t.Errorf("system %d: %v, want %v", i, got, wants[i])
				}
			}
		})
	}
	group.Wait()
}
