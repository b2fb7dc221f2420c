package fuse

import (
	"fmt"
	"slices"
	"testing"

	"loomwork/api"
	"loomwork/order"
	"loomwork/sys"
)

// outside are numbers that no variable has where there are so many.
func outside(count int) []int { return []int{-1, -count, count, 1 << 32, greatest, least} }

// right is a system in which some rules go, the last of its variables, which nobody
// makes, beside it.
func right() api.System {
	s := over("i i3 i3 i3 i i", each(2, arr(1, 0), sca(0), add()), each(3, arr(2, 0), un(api.KNeg)), foldE(api.KAdd, 4, 3, 0, arr(3, 0)), number(5, 1))
	s.Vars, s.Out = append(s.Vars, types("i")...), []int{4, 0, 5}
	return s
}

// P11: each fault of sys.Check is told by both, with nothing beside it.
func TestFaults(t *testing.T) {
	wantFused(t, "right", right(), foldE(api.KAdd, 4, 3, 0, arr(1, 0), sca(0), add(), un(api.KNeg)), each(5, num(1)))
	wrong := func(what string, code, at int, change func(s *api.System)) {
		t.Helper()
		s := right()
		change(&s)
		wantSame(t, what+": Check", sys.Check(s), api.Fault{Code: code, At: at})
		wantFault(t, what, s, code, at)
	}
	wrong("variables", api.ErrMany, -1, func(s *api.System) { s.Vars = slices.Repeat(types("i"), 401) })
	wrong("In", api.ErrMany, -1, func(s *api.System) { s.In = make([]int, 401) })
	wrong("Out", api.ErrMany, -1, func(s *api.System) { s.Out = make([]int, 401) })
	wrong("rules", api.ErrMany, -1, func(s *api.System) { s.Rules = make([]api.Rule, 401) })
	wrong("Elem", api.ErrType, -4, func(s *api.System) { s.Vars[2].Elem = 'x' })
	wrong("N", api.ErrSize, -5, func(s *api.System) { s.Vars[3].N = 301 })
	wrong("N below", api.ErrSize, -8, func(s *api.System) { s.Vars[6].N = -1 })
	wrong("In twice", api.ErrTwice, -1, func(s *api.System) { s.In = []int{0, 1, 0} })
	for _, v := range outside(7) {
		wrong("In that is none", api.ErrRange, -1, func(s *api.System) { s.In = append(s.In, v) })
		wrong("Out that is none", api.ErrRange, -1, func(s *api.System) { s.Out[1] = v })
		wrong("Out of a rule", api.ErrRange, 2, func(s *api.System) { s.Rules[2].Out = v })
		wrong("V", api.ErrRange, 1, func(s *api.System) { s.Rules[1].E[0].V = v })
		wrong("A", api.ErrRange, 3, func(s *api.System) { s.Rules[3] = pre(5, 0, v) })
	}
	wrong("In is made", api.ErrTwice, 2, func(s *api.System) { s.Rules[2].Out = 0 })
	wrong("made twice", api.ErrTwice, 3, func(s *api.System) { s.Rules[3].Out = 4 })
	for _, op := range []int{0, -1, 17, greatest, least} {
		wrong("no Op", api.ErrForm, 1, func(s *api.System) { s.Rules[1].Op = op })
	}
	wrong("more A", api.ErrForm, 1, func(s *api.System) { s.Rules[1].A = []int{0} })
	wrong("less A", api.ErrForm, 2, func(s *api.System) { s.Rules[2].A = nil })
	wrong("steps", api.ErrMany, 1, func(s *api.System) { s.Rules[1].E = make([]api.Push, 25) })
	wrong("no steps", api.ErrType, 0, func(s *api.System) { s.Rules[0].E = nil })
	wrong("a step that takes more", api.ErrType, 1, func(s *api.System) { s.Rules[1].E[1].Op = api.PSel })
	wrong("a cell that is none", api.ErrType, 1, func(s *api.System) { s.Rules[1].E[0].N = 1 })
	wrong("PIdx", api.ErrType, 1, func(s *api.System) { s.Rules[1].E[0] = idx(1000001) })
	wrong("types", api.ErrType, 3, func(s *api.System) { s.Rules[3] = rule(api.QCopy, 0, 5, 1) })
	wrong("what nobody makes", api.ErrNone, 0, func(s *api.System) { s.Rules[0].E[1].V = 6 })
	wrong("what nobody makes, in the row ahead", api.ErrNone, 3, func(s *api.System) { s.Rules[3] = pre(5, 0, 6) })
	wrong("Out that nobody makes", api.ErrNone, -1, func(s *api.System) { s.Out[0] = 6 })
}

// P11: a round is no fault.
func TestRound(t *testing.T) {
	s := over("i i i", rule(api.QBin, api.KAdd, 1, 2, 0), rule(api.QBin, api.KMul, 2, 1, 0))
	_, fault := order.Sort(s)
	wantSame(t, "Sort's fault", fault, api.Fault{Code: api.ErrRound, At: 0})
	wantNorm(t, "a round", s, each(1, sca(2), sca(0), add()), each(2, sca(1), sca(0), bin(api.KMul)))
	wantFused(t, "a round", s, each(2, sca(2), sca(0), add(), sca(0), bin(api.KMul)))
}

// anything is a system of whatever numbers, with lists that may be nil.
func anything(d *dice) api.System {
	number := func() int {
		if d.below(3) > 0 {
			return d.below(18)
		}
		return pick(d, []int{-1, -2, 300, 301, 400, 1 << 32, 1<<32 + 1, greatest, least, least + 1})
	}
	ints := func() []int {
		var list []int
		for range d.below(5) {
			list = append(list, number())
		}
		return list
	}
	s := api.System{In: ints(), Out: ints()}
	for range d.below(5) {
		s.Vars = append(s.Vars, api.Var{Elem: byte(pick(d, []int{'i', 'b', 0, 255})), N: number()})
	}
	for range d.below(4) {
		r := api.Rule{Op: number(), K: number(), Out: number(), N: int64(number()), A: ints()}
		for range d.below(4) {
			r.E = append(r.E, api.Push{Op: number(), K: number(), V: number(), N: int64(number())})
		}
		s.Rules = append(s.Rules, r)
	}
	return s
}

// slip puts some number at one place of a system, or takes something away.
func slip(d *dice, s *api.System) {
	number := pick(d, append(upTo(-1, len(s.Vars)+1), 301, 1000001, 1<<32, greatest, least))
	places := []*int{&s.Vars[d.below(len(s.Vars))].N}
	for i := range s.In {
		places = append(places, &s.In[i])
	}
	for i := range s.Out {
		places = append(places, &s.Out[i])
	}
	for i := range s.Rules {
		s.Rules[i] = order.Own(s.Rules[i])
		r := &s.Rules[i]
		places = append(places, &r.Op, &r.K, &r.Out)
		for at := range r.A {
			places = append(places, &r.A[at])
		}
		for at := range r.E {
			places = append(places, &r.E[at].Op, &r.E[at].K, &r.E[at].V)
		}
	}
	r := &s.Rules[d.below(len(s.Rules))]
	switch d.below(7) {
	case 0:
		s.Rules = s.Rules[1:]
	case 1:
		r.A, r.E = append(r.A, number)[d.below(2):], append(r.E, sca(number))
	case 2:
		r.N = int64(number)
		if len(r.E) > 0 {
			r.E[d.below(len(r.E))].N = int64(number)
		}
	default:
		*pick(d, places) = number
	}
}

// P1: no call panics, whatever it is given, and what is handed in stays; what is no
// system has sys.Check's fault.
func TestAnything(t *testing.T) {
	d := dice(7)
	faults := map[int]int{}
	for i := range 40000 {
		s := anything(&d)
		if i%2 == 0 {
			s = thrown(i/2, 7)
			slip(&d, &s)
		}
		kept := copied(s, 3)
		fault := sys.Check(s)
		faults[fault.Code]++
		if fault.Code != 0 {
			wantFault(t, fmt.Sprint("thrown ", i), s, fault.Code, fault.At)
		} else {
			holdAgainstSaid(t, fmt.Sprint("thrown ", i), s, map[string]int{})
		}
		if plain(s) != plain(kept) || t.Failed() {
			t.Fatalf("thrown %d: %v, it was %v", i, s, kept)
		}
	}
	for _, code := range []int{0, api.ErrRange, api.ErrTwice, api.ErrForm, api.ErrNone, api.ErrType, api.ErrSize} {
		if faults[code] < 100 {
			t.Errorf("the code %d was told %d times alone", code, faults[code])
		}
	}
}

// P1: every call ends: lists that are long.
func TestEndless(t *testing.T) {
	long := make([]int, 1<<20)
	wantFault(t, "In", api.System{Vars: types("i"), In: long}, api.ErrMany, -1)
	wantFault(t, "Out", api.System{Vars: types("i"), In: []int{0}, Out: long}, api.ErrMany, -1)
	wantFault(t, "rules", api.System{Rules: make([]api.Rule, 1<<18)}, api.ErrMany, -1)
	wantFault(t, "A", api.System{Vars: types("i"), Rules: []api.Rule{{Op: api.QPre, A: long}}}, api.ErrForm, 0)
	steps := slices.Repeat([]api.Push{sca(0)}, 1<<20)
	wantFault(t, "E", api.System{Vars: types("i"), Rules: []api.Rule{{Op: api.QEach, E: steps}}}, api.ErrMany, 0)
	aPre := api.Rule{Op: api.QPre, Out: 1, A: []int{0, 1}, E: steps}
	s := api.System{Vars: types("i i"), Out: []int{1}, Rules: []api.Rule{{Op: api.QNum, Out: 0, E: steps}, aPre}}
	for _, call := range []func(api.System) (api.System, api.Fault){Norm, Fuse} {
		got, fault := call(s)
		wantSame(t, "fault", fault, api.Fault{})
		wantSame(t, "the first", got.Rules[0], each(0, num(0)))
		if len(got.Rules) != 2 || !slices.Equal(got.Rules[1].E, steps) {
			t.Errorf("steps that a rule does not have do not stay")
		}
	}
}

// P1: as many rules as there may be, each with as many steps, all of which use what
// was made ahead.
func TestMost(t *testing.T) {
	s := api.System{Vars: slices.Repeat(types("i300"), api.MaxVars), In: []int{0}, Out: []int{api.MaxVars - 1}}
	for out := 1; out < api.MaxVars; out++ {
		var steps []api.Push
		for i := range 12 {
			steps = append(steps, arr((out*31+i*7)%out, 0))
		}
		s.Rules = append(s.Rules, each(out, append(steps, slices.Repeat([]api.Push{add()}, 11)...)...))
	}
	holdAgainstSaid(t, "most", s, map[string]int{})
	slices.Reverse(s.Rules)
	holdAgainstSaid(t, "most, backward", s, map[string]int{})
}

// Lists may be nil or empty, and are the same either way.
func TestEmptyLists(t *testing.T) {
	for _, rules := range [][]api.Rule{{number(0, 4), each(1, sca(0))}, {each(0, num(1)), each(1, num(2))}} {
		s := api.System{Vars: types("i i"), Rules: rules}
		other := api.System{Vars: types("i i"), In: []int{}, Out: []int{}}
		for _, r := range rules {
			r.A = []int{}
			if r.Op < api.QEach {
				r.E = []api.Push{}
			}
			other.Rules = append(other.Rules, r)
		}
		wantSame(t, "nil or empty", asked(other), asked(s))
	}
	wantSame(t, "no rules", asked(api.System{Rules: []api.Rule{}, Vars: []api.Var{}}), asked(api.System{}))
	wantFault(t, "nil Vars", api.System{Out: []int{0}}, api.ErrRange, -1)
	wantFault(t, "empty Vars", api.System{Vars: []api.Var{}, Out: []int{0}}, api.ErrRange, -1)
	wantFault(t, "nil lists of a rule", api.System{Vars: types("i"), Rules: []api.Rule{{}}}, api.ErrForm, 0)
}
