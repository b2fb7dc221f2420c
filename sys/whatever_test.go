package sys

import (
	"reflect"
	"slices"
	"sync"
	"testing"

	"loomwork/api"
)

// spare copies a list into one that has room behind its length, with something
// there.
func spare[T any](list []T, behind T) []T {
	long := append(make([]T, 0, len(list)+3), list...)
	for i := len(list); i < cap(long); i++ {
		long[:cap(long)][i] = behind
	}
	return long
}

// copied is a system in memory of its own, with a number behind each list.
func copied(s api.System, behind int) api.System {
	s.Vars = spare(s.Vars, api.Var{Elem: 'i', N: behind})
	s.In, s.Out = spare(s.In, behind), spare(s.Out, behind)
	s.Rules = spare(s.Rules, api.Rule{Op: api.QNum, Out: behind})
	for i := range s.Rules {
		r := &s.Rules[i]
		r.A, r.E = spare(r.A, behind), spare(r.E, sca(behind))
	}
	return s
}

// whole answers a list with what lies behind its length.
func whole[T any](l []T) []T { return l[:cap(l)] }

// listsOf answers each list of a system, with what lies behind it.
func listsOf(s api.System) []any {
	all := []any{whole(s.Vars), whole(s.In), whole(s.Out), whole(s.Rules)}
	for _, r := range s.Rules {
		all = append(all, whole(r.A), whole(r.E))
	}
	return all
}

// P1 and 'What holds everywhere': what is handed in stays as it was, and what lies
// behind the lists is neither read nor written.
func TestHandedIn(t *testing.T) {
	for i := range 3000 {
		s, d := thrown(i), dice(i)
		if i%2 == 0 {
			slip(&d, &s)
		}
		want := Check(s)
		for _, behind := range []int{0, -1, 1, greatest} {
			given, kept := copied(s, behind), copied(s, behind)
			if got := Check(given); got != want {
				t.Fatalf("thrown %d: %v, with more behind the lists %v", i, want, got)
			}
			for j, r := range given.Rules {
				used := Uses(r)
				if want := Uses(s.Rules[j]); !slices.Equal(used, want) {
					t.Fatalf("thrown %d: the rule %d uses %v, with more behind the lists %v", i, j, want, used)
				}
				for k := range whole(used) {
					whole(used)[k] = -7
				}
			}
			if !reflect.DeepEqual(listsOf(given), listsOf(kept)) {
				t.Fatalf("thrown %d: changed", i)
			}
			if again := Check(given); again != want {
				t.Fatalf("thrown %d: %v, asked again %v", i, want, again)
			}
		}
	}
}

// anything is a system of whatever numbers, with lists that may be nil.
func anything(d *dice) api.System {
	number := func() int {
		if d.below(2) == 0 {
			return d.below(18)
		}
		return pick(d, []int{-1, -2, 300, 301, 400, 1000001, 1 << 32, 1<<32 + 1, greatest, least, least + 1})
	}
	ints := func() []int {
		var list []int
		for range d.below(5) {
			list = append(list, number())
		}
		return list
	}
	s := api.System{In: ints(), Out: ints()}
	for range d.below(5) {
		s.Vars = append(s.Vars, api.Var{Elem: byte(pick(d, []int{'i', 'b', 0, 255})), N: number()})
	}
	for range d.below(4) {
		r := api.Rule{Op: number(), K: number(), Out: number(), N: int64(number()), A: ints()}
		for range d.below(4) {
			r.E = append(r.E, api.Push{Op: number(), K: number(), V: number(), N: int64(number())})
		}
		s.Rules = append(s.Rules, r)
	}
	return s
}

// P1: no call panics, whatever it is given.
func TestAnything(t *testing.T) {
	d := dice(7)
	for i := range 60000 {
		s := anything(&d)
		if i%3 > 0 { // so that rules are looked at, too
			right := thrown(i % 100)
			s.Vars, s.In = right.Vars, right.In
			s.Out = nil
			for j := range s.Rules {
				s.Rules[j].Out = j % max(1, len(s.Vars)-len(s.In))
			}
		}
		if got, want := Check(s), said(s); got != want {
			t.Fatalf("thrown %d: %v, want %v: %v", i, got, want, s)
		}
		for _, r := range s.Rules {
			used := Uses(r)
			for j, v := range used {
				if j > 0 && used[j-1] >= v {
					t.Fatalf("%v does not rise", used)
				}
			}
			Apply(r.K, r.N, int64(r.Out))
		}
	}
}

// P1: every call ends: lists that are long.
func TestEndless(t *testing.T) {
	long := make([]int, 1<<22)
	wantFault(t, "In", api.System{Vars: types("i"), In: long}, api.ErrMany, -1)
	wantFault(t, "Out", api.System{Vars: types("i"), Out: long}, api.ErrMany, -1)
	wantFault(t, "variables", api.System{Vars: make([]api.Var, 1<<22)}, api.ErrMany, -1)
	wantFault(t, "rules", api.System{Rules: make([]api.Rule, 1<<20)}, api.ErrMany, -1)
	wantFault(t, "A", api.System{Vars: types("i"), Rules: []api.Rule{{Op: api.QIf, A: long}}}, api.ErrForm, 0)
	steps := make([]api.Push, 1<<20)
	wantFault(t, "E", api.System{Vars: types("i"), Rules: []api.Rule{{Op: api.QEach, E: steps}}}, api.ErrMany, 0)
	many := numbers(api.MaxRules)
	for i := range many.Rules {
		many.Rules[i].E = steps
	}
	wantRight(t, "E of rules that have none", many)
}

// Lists may be nil or empty, and are the same either way.
func TestEmptyLists(t *testing.T) {
	for _, r := range rightRules() {
		s := overFour(r.Rule, r.out)
		if len(r.A) == 0 {
			s.Rules[0].A = []int{}
			wantRight(t, "an empty A", s)
			s.Rules[0].A = nil
			wantRight(t, "no A", s)
		}
		if r.Op < api.QEach {
			s.Rules[0].E = []api.Push{}
			wantRight(t, "an empty E", s)
			continue
		}
		for _, steps := range [][]api.Push{nil, {}} {
			s.Rules[0].E = steps
			wantFault(t, "E of nothing", s, api.ErrType, 0)
		}
	}
}

// P1: what is answered hangs on the arguments alone.
func TestAtOnce(t *testing.T) {
	var systems []api.System
	var wants []api.Fault
	for i := range 300 {
		s, d := thrown(i), dice(i)
		if i%2 == 0 {
			slip(&d, &s)
		}
		systems, wants = append(systems, s), append(wants, Check(s))
	}
	var group sync.WaitGroup
	for range 4 {
		group.Go(func() {
			for i, s := range systems {
				if got := Check(s); got != wants[i] {
					t.Errorf("system %d: %v, want %v", i, got, wants[i])
				}
			}
		})
	}
	group.Wait()
}
