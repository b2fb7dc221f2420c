package place

import (
	"fmt"
	"reflect"
	"slices"
	"sync"
	"testing"

	"loomwork/api"
)

// whole answers a list with what lies behind its length.
func whole[T any](l []T) []T { return l[:cap(l)] }

// spare copies a list into one that has room behind its length, with something
// there.
func spare[T any](list []T, behind T) []T {
	long := append(make([]T, 0, len(list)+3), list...)
	for i := len(list); i < cap(long); i++ {
		whole(long)[i] = behind
	}
	return long
}

// copied is a system in memory of its own, with a number behind each list.
func copied(s api.System, behind int) api.System {
	s.Vars = spare(s.Vars, api.Var{Elem: 'i', N: behind})
	s.In, s.Out = spare(s.In, behind), spare(s.Out, behind)
	s.Rules = spare(s.Rules, api.Rule{Op: api.QNum, Out: behind})
	for i := range s.Rules {
		r := &s.Rules[i]
		r.A, r.E = spare(r.A, behind), spare(r.E, sca(behind))
	}
	return s
}

// listsOf answers each list of a system, with what lies behind it.
func listsOf(s api.System) []any {
	all := []any{whole(s.Vars), whole(s.In), whole(s.Out), whole(s.Rules)}
	for _, r := range s.Rules {
		all = append(all, whole(r.A), whole(r.E))
	}
	return all
}

// asked is all that is answered of a system.
func asked(s api.System) []any {
	plan, fault := Make(s)
	all := []any{plan, fault}
	for _, r := range s.Rules {
		for u := range s.Vars {
			all = append(all, Over(s, r, u))
		}
	}
	return all
}

// changePlan changes all that was answered; each list must have memory of its own.
func changePlan(plan api.Plan) {
	fill(plan.At, -7)
	fill(plan.Keep, -8)
	_ = append(plan.At, -9)
	_ = append(plan.Keep, -10)
}

// fill puts something else into all the memory that a list has.
func fill[T any](list []T, with T) {
	for i := range whole(list) {
		whole(list)[i] = with
	}
}

func writeOver(s api.System) {
	for _, r := range s.Rules {
		fill(r.A, -7)
		fill(r.E, api.Push{Op: -7})
	}
	fill(s.Vars, api.Var{Elem: '?', N: -7})
	fill(s.In, -7)
	fill(s.Out, -7)
	fill(s.Rules, api.Rule{Op: -7})
}

// 'What holds everywhere': what is handed in stays as it was, also if what is
// answered is changed; what lies behind the lists is neither read nor written.
func TestHandedIn(t *testing.T) {
	for i := range 2000 {
		s := thrown(i, 8)
		want := asked(s)
		for _, behind := range []int{0, 3, -1, greatest} {
			given, kept := copied(s, behind), copied(s, behind)
			wantSame(t, fmt.Sprint("thrown ", i, " with more behind the lists"), asked(given), want)
			plan, _ := Make(given)
			changePlan(plan)
			if !reflect.DeepEqual(listsOf(given), listsOf(kept)) {
				t.Fatalf("thrown %d: changed", i)
			}
			wantSame(t, "asked again", asked(given), want)
		}
	}
}

// 'What holds everywhere': what is answered does not hang on what becomes of what
// was handed in, nor on what becomes of another answer.
func TestAnswerKept(t *testing.T) {
	for i := range 2000 {
		given := copied(thrown(i, 8), 5)
		got := asked(given)
		want := plain(got)
		other, _ := Make(given)
		changePlan(other)
		writeOver(given)
		if plain(got) != want {
			t.Fatalf("thrown %d: changed with what was handed in", i)
		}
	}
}

// 'What holds everywhere': the two lists of one answer share no memory.
func TestListsApart(t *testing.T) {
	for i := range 500 {
		plan, _ := Make(sortedThrown(i, 8))
		keep := plain(plan.Keep)
		fill(plan.At, -7)
		_ = append(plan.At, slices.Repeat([]int{-9}, 30)...)
		if plain(plan.Keep) != keep {
			t.Fatalf("thrown %d: Keep changed with At", i)
		}
		fill(plan.Keep, -8)
		if slices.Contains(plan.At, -8) {
			t.Fatalf("thrown %d: At changed with Keep", i)
		}
	}
}

// 'What holds everywhere': lists that are handed in may share memory.
func TestShared(t *testing.T) {
	sharing := func() api.System {
		list := []int{0, 1, 2, 3, 4, 5}
		steps := []api.Push{sca(0), sca(1), bin(api.KAdd), num(4)}
		return api.System{Vars: numbers(7), In: list[:2], Out: list[3:5], Rules: []api.Rule{
			{Op: api.QBin, K: api.KAdd, Out: 2, A: list[:2], E: steps},
			{Op: api.QNum, Out: 6, E: steps},
			{Op: api.QBin, K: api.KAdd, Out: 3, A: list[1:3], E: steps[1:]},
			{Op: api.QPre, Out: 4, A: list[1:3], E: steps[:1]},
			{Op: api.QEach, Out: 5, A: list[2:2], E: steps[:3]},
		}}
	}
	s := sharing()
	wantPlan(t, "shared", s, []int{2, 3, 4, 5, 6, 2, 5}, []int{-1, -1, -1, 1, -1}, 7)
	wantSame(t, "what was handed in", s, sharing())
}

// P1: what is answered hangs on the arguments alone.
func TestAtOnce(t *testing.T) {
	var systems []api.System
	var wants []string
	for i := range 300 {
		s := thrown(i, 10)
		systems, wants = append(systems, s), append(wants, plain(asked(s)))
	}
	var group sync.WaitGroup
	for range 4 {
		group.Go(func() {
			for i, s := range systems {
				if got := plain(asked(s)); got != wants[i] {
					t.Errorf("system %d: %v, want %v", i, got, wants[i])
				}
			}
		})
	}
	group.Wait()
}
