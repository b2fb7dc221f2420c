package build

import (
	"fmt"
	"slices"
	"testing"

	"loomwork/api"
	"loomwork/order"
	"loomwork/sys"
)

// anyNumber is a number of whatever kind.
func anyNumber(d *dice) int {
	if d.below(4) > 0 {
		return d.below(17)
	}
	return pick(d, []int{-1, -2, 300, 301, 400, 5999, 6000, 6001, 1 << 32, 1<<32 + 1, greatest, greatest - 1, least, least + 1})
}

func anyInts(d *dice) []int {
	var list []int
	for range d.below(5) {
		list = append(list, anyNumber(d))
	}
	return list
}

// anything is a system and a plan of whatever numbers, with lists that may be nil.
func anything(d *dice) asked {
	s := api.System{In: anyInts(d), Out: anyInts(d)}
	for range d.below(5) {
		s.Vars = append(s.Vars, api.Var{Elem: byte(pick(d, []int{'i', 'b', 0, 255})), N: anyNumber(d)})
	}
	for range d.below(4) {
		r := api.Rule{Op: anyNumber(d), K: anyNumber(d), Out: anyNumber(d), N: int64(anyNumber(d)), A: anyInts(d)}
		for range d.below(4) {
			r.E = append(r.E, api.Push{Op: anyNumber(d), K: anyNumber(d), V: anyNumber(d), N: int64(anyNumber(d))})
		}
		s.Rules = append(s.Rules, r)
	}
	return asked{s, anyPlan(d)}
}

func anyPlan(d *dice) api.Plan {
	return api.Plan{At: anyInts(d), Keep: anyInts(d), Cells: anyNumber(d)}
}

// slip puts some number at one place of a system, or takes something away.
func slip(d *dice, s *api.System) {
	number := pick(d, append(upTo(-1, len(s.Vars)+1), 301, 1<<32, greatest, least))
	places := []*int{&s.Vars[d.below(len(s.Vars))].N}
	for _, list := range [][]int{s.In, s.Out} {
		for i := range list {
			places = append(places, &list[i])
		}
	}
	for i := range s.Rules {
		s.Rules[i] = order.Own(s.Rules[i])
		r := &s.Rules[i]
		places = append(append(places, &r.Op, &r.K, &r.Out), placesOf(r)...)
	}
	switch d.below(7) {
	case 0:
		s.In = s.In[min(1, len(s.In)):]
	case 1:
		s.Rules = s.Rules[min(1, len(s.Rules)):]
	case 2:
		shuffle(d, s.Rules)
	case 3:
		if len(s.Rules) > 0 {
			r := &s.Rules[d.below(len(s.Rules))]
			r.A, r.E = append(r.A, number)[d.below(2):], append(r.E, sca(number))
		}
	default:
		*pick(d, places) = number
	}
}

// P1: no call panics, whatever it is given, and what is handed in stays; what is told is
// what the chapter's words say.
func TestAnything(t *testing.T) {
	d := dice(7)
	codes := map[int]int{}
	for i := range 30000 {
		a := anything(&d)
		if i%3 > 0 {
			a.System = thrown(i/3, 6)
			a.Plan = pick(&d, []api.Plan{apart(&d, a.System), anywhere(&d, a.System), anyPlan(&d)})
			slip(&d, &a.System)
		}
		kept := plain(a)
		codes[holdAgainstSaid(t, fmt.Sprint("thrown ", i), a.System, a.Plan)]++
		if plain(a) != kept || t.Failed() {
			t.Fatalf("thrown %d: %v, it was %v", i, a, kept)
		}
	}
	for _, code := range []int{0, api.ErrRange, api.ErrTwice, api.ErrForm, api.ErrNone, api.ErrType, api.ErrSize, api.ErrRound} {
		if codes[code] < 100 {
			t.Errorf("the code %d was told %d times alone", code, codes[code])
		}
	}
}

// P1: every call ends: lists that are long.
func TestEndless(t *testing.T) {
	long := make([]int, 1<<20)
	p := api.Plan{At: []int{1}, Keep: []int{}, Cells: 2}
	number := types("i")
	wantFault(t, "In", api.System{Vars: number, In: long}, p, api.ErrMany, -1)
	wantFault(t, "Out", api.System{Vars: number, In: []int{0}, Out: long}, p, api.ErrMany, -1)
	wantFault(t, "rules", api.System{Rules: make([]api.Rule, 1<<18)}, p, api.ErrMany, -1)
	wantFault(t, "variables", api.System{Vars: slices.Repeat(number, 1<<18)}, p, api.ErrMany, -1)
	wantFault(t, "A", api.System{Vars: number, Rules: []api.Rule{{Op: api.QPre, A: long}}}, p, api.ErrForm, 0)
	steps := slices.Repeat(tree("s0"), 1<<20)
	wantFault(t, "E", api.System{Vars: number, Rules: []api.Rule{{Op: api.QEach, E: steps}}}, p, api.ErrMany, 0)
	wantFault(t, "At", api.System{Vars: number, In: []int{0}}, api.Plan{At: long, Cells: 2}, api.ErrRange, -1)
	wantFault(t, "Keep", api.System{Vars: number, In: []int{0}}, api.Plan{At: []int{1}, Keep: long, Cells: 2}, api.ErrRange, -1)
	s := with("i i", api.Rule{Op: api.QPre, Out: 1, A: []int{0, 0}, E: steps})
	wantSteps(t, "steps that a rule does not have", s, lying(4, "1 2 > 3"), one(2, "s0 s3 s1 sel"), one(3, "s1"))
	s.Rules[0] = api.Rule{Op: api.QCopy, Out: 1, A: []int{0}, E: steps}
	wantFault(t, "steps that a rule of another form does not have", s, lying(4, "1 2 > -1"), api.ErrForm, 0)
}

// P1: as many variables and rules as there may be, in as many cells as there may be, with
// as many steps as can come of rules.
func TestFull(t *testing.T) {
	s := api.System{Vars: types("i"), In: []int{0}}
	p := api.Plan{At: []int{1}, Cells: api.MaxCells}
	for v := 1; v < api.MaxVars; v++ {
		s.Vars = append(s.Vars, api.Var{Elem: 'i', N: 300})
		s.Rules = append(s.Rules, pre(v, v, v))
		p.At, p.Keep = append(p.At, 2+v%1000), append(p.Keep, 2+v%4000)
		s.Rules[v-1].A = []int{max(v-1, 1), v}
	}
	s.Rules[0] = api.Rule{Op: api.QEach, Out: 1, E: append(slices.Repeat(tree("s0"), 12), slices.Repeat(tree("add"), 11)...)}
	p.Keep[0] = -1
	s.Out = upTo(0, api.MaxVars)
	wantSame(t, "Check", sys.Check(s), api.Fault{})
	wantSame(t, "full", holdAgainstSaid(t, "full", s, p), 0)
	l, _ := made(t, "full", s, p)
	wantSame(t, "how many steps", len(l.Steps), 2*399)
	for v := 2; v < api.MaxVars; v++ {
		s.Vars[v].N = 2
		s.Rules[v-1] = cat(v, 1, 1)
		p.Keep[v-1] = least
	}
	s.Vars[1].N = 1
	wantSame(t, "full of QCat", holdAgainstSaid(t, "full of QCat", s, p), 0)
	l, _ = made(t, "full of QCat", s, p)
	wantSame(t, "how many steps", len(l.Steps), 2*399)
	slices.Reverse(s.Rules)
	wantSame(t, "backward", holdAgainstSaid(t, "backward", s, p), api.ErrRound)
}
