package place

import (
	"fmt"
	"slices"
	"testing"

	"loomwork/api"
	"loomwork/order"
	"loomwork/sys"
)

// anything is a system of whatever numbers, with lists that may be nil.
func anything(d *dice) api.System {
	number := func() int {
		if d.below(3) > 0 {
			return d.below(18)
		}
		return pick(d, []int{-1, -2, 300, 301, 400, 1 << 32, 1<<32 + 1, greatest, least, least + 1})
	}
	ints := func() []int {
		var list []int
		for range d.below(5) {
			list = append(list, number())
		}
		return list
	}
	s := api.System{In: ints(), Out: ints()}
	for range d.below(5) {
		s.Vars = append(s.Vars, api.Var{Elem: byte(pick(d, []int{'i', 'b', 0, 255})), N: number()})
	}
	for range d.below(4) {
		r := api.Rule{Op: number(), K: number(), Out: number(), N: int64(number()), A: ints()}
		for range d.below(4) {
			r.E = append(r.E, api.Push{Op: number(), K: number(), V: number(), N: int64(number())})
		}
		s.Rules = append(s.Rules, r)
	}
	return s
}

// slip puts some number at one place of a system, or takes something away.
func slip(d *dice, s *api.System) {
	number := pick(d, append(upTo(-1, len(s.Vars)+1), 301, 1<<32, greatest, least))
	places := []*int{&s.Vars[d.below(len(s.Vars))].N}
	for i := range s.In {
		places = append(places, &s.In[i])
	}
	for i := range s.Out {
		places = append(places, &s.Out[i])
	}
	for i := range s.Rules {
		s.Rules[i] = order.Own(s.Rules[i])
		r := &s.Rules[i]
		places = append(append(places, &r.Op, &r.K, &r.Out), placesOf(r)...)
	}
	switch d.below(6) {
	case 0:
		s.In = s.In[1:]
	case 1:
		if len(s.Rules) > 0 {
			s.Rules = s.Rules[1:]
		}
	case 2:
		if len(s.Rules) > 0 {
			r := &s.Rules[d.below(len(s.Rules))]
			r.A, r.E = append(r.A, number)[d.below(2):], append(r.E, sca(number))
		}
	default:
		*pick(d, places) = number
	}
}

// P1: no call panics, whatever it is given, and what is handed in stays; what is no
// system has sys.Check's fault.
func TestAnything(t *testing.T) {
	d := dice(7)
	faults := map[int]int{}
	for i := range 40000 {
		s := anything(&d)
		if i%2 == 0 {
			s = thrown(i/2, 6)
			slip(&d, &s)
		}
		kept := copied(s, 3)
		fault := sys.Check(s)
		if fault.Code != 0 {
			wantFault(t, fmt.Sprint("thrown ", i), s, fault.Code, fault.At)
		} else {
			fault.Code = holdAgainstSaid(t, fmt.Sprint("thrown ", i), s)
		}
		faults[fault.Code]++
		if plain(s) != plain(kept) || t.Failed() {
			t.Fatalf("thrown %d: %v, it was %v", i, s, kept)
		}
	}
	for _, code := range []int{0, api.ErrRange, api.ErrTwice, api.ErrForm, api.ErrNone, api.ErrType, api.ErrSize, api.ErrRound} {
		if faults[code] < 100 {
			t.Errorf("the code %d was told %d times alone", code, faults[code])
		}
	}
}

// P1: every call ends: lists that are long.
func TestEndless(t *testing.T) {
	long := make([]int, 1<<20)
	wantFault(t, "In", api.System{Vars: numbers(1), In: long}, api.ErrMany, -1)
	wantFault(t, "Out", api.System{Vars: numbers(1), In: []int{0}, Out: long}, api.ErrMany, -1)
	wantFault(t, "rules", api.System{Rules: make([]api.Rule, 1<<18)}, api.ErrMany, -1)
	wantFault(t, "variables", api.System{Vars: numbers(1 << 18)}, api.ErrMany, -1)
	wantFault(t, "A", api.System{Vars: numbers(1), Rules: []api.Rule{{Op: api.QPre, A: long}}}, api.ErrForm, 0)
	steps := slices.Repeat([]api.Push{sca(0)}, 1<<20)
	wantFault(t, "E", api.System{Vars: numbers(1), Rules: []api.Rule{{Op: api.QEach, E: steps}}}, api.ErrMany, 0)
	s := api.System{Vars: numbers(2), Out: []int{1}, Rules: []api.Rule{{Op: api.QNum, Out: 0, E: steps}, {Op: api.QNum, Out: 1, E: steps}}}
	wantPlan(t, "steps that rules do not have", s, []int{1, 1}, []int{-1, -1}, 2)
	wantOver(t, "E", s, api.Rule{Op: api.QEach, Out: 1, E: steps}, 0, true)
	wantOver(t, "A", s, api.Rule{Op: api.QEach, Out: 1, A: long}, 1, true)
	wantOver(t, "A", s, api.Rule{Op: api.QEach, Out: 1, A: long}, 0, false)
}

// P1: as many variables and rules as there may be, each with as many steps, all of which
// use what was made ahead; and as many as there may be in so few cells that all lie over
// one another.
func TestFull(t *testing.T) {
	s := api.System{Vars: slices.Repeat(types("i300"), api.MaxVars), Out: []int{api.MaxVars - 1}}
	for out := range api.MaxVars {
		steps := []api.Push{num(1)}
		for i := range 11 {
			if out > 0 {
				steps = append(steps, arr((out*31+i*7)%out, 0), bin(api.KAdd))
			}
		}
		s.Rules = append(s.Rules, each(out, steps...))
	}
	wantSame(t, "many cells", holdAgainstSaid(t, "full", s), api.ErrMany)
	for v := range s.Vars {
		s.Vars[v].N = 14
	}
	wantSame(t, "fewer cells", holdAgainstSaid(t, "full", s), 0)
	s.Out = upTo(0, api.MaxVars)
	wantSame(t, "all Out", holdAgainstSaid(t, "full, all Out", s), 0)
	slices.Reverse(s.Rules)
	wantSame(t, "backward", holdAgainstSaid(t, "full, backward", s), api.ErrRound)
	slices.Reverse(s.Rules)
	for v := range s.Vars {
		s.Vars[v].N = v%7 + 1
		s.Rules[v] = each(v, num(1))
		if v > 0 {
			s.Rules[v].E = []api.Push{num(0), num(1), at(v - 1 - v%3*min(v-1, 5)/5)}
		}
	}
	s.Out = []int{0, 9, 399}
	wantSame(t, "of many sizes", holdAgainstSaid(t, "of many sizes", s), 0)
	for v := range s.Vars {
		s.Vars[v].N, s.Rules[v] = 300, each(v, arr(max(v-1, 0), 0))
	}
	s.Rules[0] = each(0, num(1))
	s.Out = []int{399}
	wantPlan(t, "all over one another", s, slices.Repeat([]int{1}, 400), slices.Repeat([]int{-1}, 400), 301)
	s.Rules[0] = pre(0, 399, 399)
	wantFault(t, "a round", s, api.ErrRound, -1)
}

// Lists may be nil or empty, and are the same either way.
func TestEmptyLists(t *testing.T) {
	for _, text := range []string{":0 :0 >", ":0 :0 >1", ":2 :2=0", ":2 :2@0", ":0 :3=0"} {
		s, other := read(text), read(text)
		for i := range s.Rules {
			s.Rules[i].A, other.Rules[i].A = nil, []int{}
		}
		if len(s.Out) == 0 {
			s.Out, other.Out = nil, []int{}
		}
		s.In, other.In = nil, []int{}
		wantSame(t, text, asked(s), asked(other))
	}
	none := api.System{Vars: numbers(2), Rules: []api.Rule{{Op: api.QNum, Out: 1, A: []int{}, E: []api.Push{}}}}
	wantPlan(t, "empty lists of a rule", none, []int{-1, 1}, []int{-1}, 2)
	none.Rules[0].A, none.Rules[0].E = nil, nil
	wantPlan(t, "nil lists of a rule", none, []int{-1, 1}, []int{-1}, 2)
	wantFault(t, "nil Vars", api.System{Out: []int{0}}, api.ErrRange, -1)
	wantFault(t, "empty Vars", api.System{Vars: []api.Var{}, Out: []int{0}}, api.ErrRange, -1)
	wantFault(t, "a rule of nothing", api.System{Vars: numbers(1), Rules: []api.Rule{{}}}, api.ErrForm, 0)
}
