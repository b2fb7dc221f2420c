package build

import (
	"fmt"
	"slices"
	"testing"

	"loomwork/api"
	"loomwork/sys"
)

// outside are numbers that no variable has where there are so many.
func outside(count int) []int { return []int{-1, -count, count, 1 << 32, greatest, least} }

// right is a sorted system in its normal form, the last of whose variables nobody makes,
// with a plan that fits.
func right() (api.System, api.Plan) {
	s := with("i i3 i3 i3 i i i", each(2, "a1 s0 add"), each(3, "a2 neg"), foldE(api.KAdd, 4, 3, 0, "a3"), pre(5, 0, 4))
	s.In, s.Out = []int{0, 1}, []int{4, 0, 5}
	return s, lying(14, "1 2 5 8 11 12 -1 > -1 -1 -1 13")
}

// wrong changes the right system, and asks for sys.Check's fault of what it becomes, with
// plans that fit and plans that do not, and also if it is not sorted, or has a rule of
// another form.
func wrong(t *testing.T, what string, code, at int, change func(s *api.System)) {
	t.Helper()
	s, p := right()
	change(&s)
	wantSame(t, what+": Check", sys.Check(s), api.Fault{Code: code, At: at})
	wantFault(t, what, s, p, code, at)
	wantFault(t, what+", no plan", s, api.Plan{}, code, at)
	slices.Reverse(s.Rules)
	turned := sys.Check(s)
	if turned.Code == 0 {
		t.Errorf("%s: turned round it is right", what)
	}
	wantFault(t, what+", turned round", s, p, turned.Code, turned.At)
	s.Rules = append(s.Rules, api.Rule{Op: api.QNum, Out: 6})
	if other := sys.Check(s); other.Code != 0 {
		wantFault(t, what+", and another form", s, p, other.Code, other.At)
	}
}

// P15.1: each fault of sys.Check is told, with nothing beside it.
func TestFaults(t *testing.T) {
	s, p := right()
	wantSteps(t, "right", s, p, all(5, 3, "a2 s1 add"), all(8, 3, "a5 neg"), fold(api.KAdd, 11, 3, "s1", "a8"), one(12, "s0 s13 s1 sel"), one(13, "s11"))
	wrong(t, "variables", api.ErrMany, -1, func(s *api.System) { s.Vars = slices.Repeat(types("i"), 401) })
	wrong(t, "In", api.ErrMany, -1, func(s *api.System) { s.In = make([]int, 401) })
	wrong(t, "Out", api.ErrMany, -1, func(s *api.System) { s.Out = make([]int, 401) })
	wrong(t, "rules", api.ErrMany, -1, func(s *api.System) { s.Rules = make([]api.Rule, 401) })
	wrong(t, "Elem", api.ErrType, -4, func(s *api.System) { s.Vars[2].Elem = 'x' })
	wrong(t, "N", api.ErrSize, -5, func(s *api.System) { s.Vars[3].N = 301 })
	wrong(t, "N below", api.ErrSize, -8, func(s *api.System) { s.Vars[6].N = -1 })
	wrong(t, "In twice", api.ErrTwice, -1, func(s *api.System) { s.In = []int{0, 1, 0} })
	for _, v := range outside(7) {
		wrong(t, "In that is none", api.ErrRange, -1, func(s *api.System) { s.In = append(s.In, v) })
		wrong(t, "Out that is none", api.ErrRange, -1, func(s *api.System) { s.Out[1] = v })
		wrong(t, "Out of a rule", api.ErrRange, 2, func(s *api.System) { s.Rules[2].Out = v })
		wrong(t, "V", api.ErrRange, 1, func(s *api.System) { s.Rules[1].E[0].V = v })
		wrong(t, "A", api.ErrRange, 2, func(s *api.System) { s.Rules[2].A[0] = v })
		wrong(t, "A of a QPre", api.ErrRange, 3, func(s *api.System) { s.Rules[3].A[0] = v })
		wrong(t, "the other A of a QPre", api.ErrRange, 3, func(s *api.System) { s.Rules[3].A[1] = v })
	}
	wrong(t, "In is made", api.ErrTwice, 2, func(s *api.System) { s.Rules[2].Out = 0 })
	wrong(t, "made twice", api.ErrTwice, 3, func(s *api.System) { s.Rules[3].Out = 4 })
	for _, op := range []int{0, -1, 17, greatest, least} {
		wrong(t, "no Op", api.ErrForm, 1, func(s *api.System) { s.Rules[1].Op = op })
	}
	wrong(t, "more A", api.ErrForm, 1, func(s *api.System) { s.Rules[1].A = []int{0} })
	wrong(t, "less A", api.ErrForm, 2, func(s *api.System) { s.Rules[2].A = nil })
	wrong(t, "a QPre of one", api.ErrForm, 3, func(s *api.System) { s.Rules[3].A = []int{0} })
	wrong(t, "steps", api.ErrMany, 1, func(s *api.System) { s.Rules[1].E = make([]api.Push, 25) })
	wrong(t, "no steps", api.ErrType, 0, func(s *api.System) { s.Rules[0].E = nil })
	wrong(t, "a step that takes more", api.ErrType, 1, func(s *api.System) { s.Rules[1].E[1].Op = api.PSel })
	wrong(t, "a cell that is none", api.ErrType, 1, func(s *api.System) { s.Rules[1].E[0].N = 1 })
	wrong(t, "a fold over nothing", api.ErrType, 2, func(s *api.System) { s.Rules[2].N = 0 })
	wrong(t, "types", api.ErrType, 3, func(s *api.System) { s.Rules[3].A[1] = 1 })
	wrong(t, "what nobody makes", api.ErrNone, 0, func(s *api.System) { s.Rules[0].E[1].V = 6 })
	wrong(t, "what nobody makes, in the row ahead", api.ErrNone, 3, func(s *api.System) { s.Rules[3].A[1] = 6 })
	wrong(t, "Out that nobody makes", api.ErrNone, -1, func(s *api.System) { s.Out[0] = 6 })
}

// P15.1: ErrRound at -1 of what is not sorted, be it that another order is right, or none.
func TestNotSorted(t *testing.T) {
	s, p := right()
	rules, keep := slices.Clone(s.Rules), slices.Clone(p.Keep)
	for first := range rules {
		for second := range first {
			s.Rules, p.Keep = slices.Clone(rules), slices.Clone(keep)
			s.Rules[first], s.Rules[second] = rules[second], rules[first]
			p.Keep[first], p.Keep[second] = keep[second], keep[first]
			what := fmt.Sprint("rules ", second, " and ", first)
			if isFoldBehindPre := first == 3 && second == 2; isFoldBehindPre {
				made(t, what, s, p)
			} else {
				wantFault(t, what, s, p, api.ErrRound, -1)
			}
		}
	}
	for _, rules := range [][]api.Rule{
		{each(0, "s0")},
		{each(0, "s1"), each(1, "s0")},
		{each(0, "s1"), each(1, "s2"), each(2, "s0")},
		{each(2, "1"), each(1, "s1")},
		{pre(0, 0, 0)},
		{pre(0, 1, 2), each(1, "s0"), each(2, "2")},
		{foldE(api.KAdd, 0, 2, 0, "k")},
		{foldE(api.KAdd, 0, 2, 1, "s0"), each(1, "2")},
	} {
		s := with("i i i", rules...)
		p := api.Plan{At: []int{1, 2, 3}, Keep: slices.Repeat([]int{-1}, len(rules)), Cells: 9}
		if rules[0].Op == api.QPre {
			p.Keep[0] = 4
		}
		wantFault(t, fmt.Sprint("a round: ", rules), s, p, api.ErrRound, -1)
	}
}

// P15.1: of several faults the one that is named first is told.
func TestWhichFirst(t *testing.T) {
	codes := []int{api.ErrNone, api.ErrRound, api.ErrRange, api.ErrForm}
	places := []int{-1, -1, -1, 1}
	for set := range 1 << len(codes) {
		s, p := right()
		has := func(i int) bool { return set>>i&1 == 1 }
		if has(3) {
			s.Rules[1] = api.Rule{Op: api.QUn, K: api.KNeg, Out: 3, A: []int{2}}
		}
		if has(2) {
			p.Cells--
		}
		if has(1) {
			s.Rules[0], s.Rules[2] = s.Rules[2], s.Rules[0]
		}
		if has(0) {
			s.Out = []int{6}
		}
		what := fmt.Sprintf("set %b", set)
		if first := slices.IndexFunc(codes, func(code int) bool { return has(slices.Index(codes, code)) }); first >= 0 {
			wantFault(t, what, s, p, codes[first], places[first])
		} else {
			made(t, what, s, p)
		}
	}
}

// P15.1: ErrRange is told ahead of ErrForm, whichever way the plan does not fit.
func TestRangeAheadOfForm(t *testing.T) {
	for what, change := range map[string]func(p *api.Plan){
		"At too short":        func(p *api.Plan) { p.At = p.At[1:] },
		"At too long":         func(p *api.Plan) { p.At = append(p.At, 1) },
		"Keep too short":      func(p *api.Plan) { p.Keep = p.Keep[:3] },
		"Keep too long":       func(p *api.Plan) { p.Keep = append(p.Keep, -1) },
		"no cells":            func(p *api.Plan) { p.Cells = 0 },
		"too many cells":      func(p *api.Plan) { p.Cells = 6001 },
		"In at the cell 0":    func(p *api.Plan) { p.At[0] = 0 },
		"made behind the end": func(p *api.Plan) { p.At[3] = 12 },
		"Keep of a QNum":      func(p *api.Plan) { p.Keep[0] = 1 },
		"Keep of a QFoldE":    func(p *api.Plan) { p.Keep[2] = 0 },
		"no Keep of a QPre":   func(p *api.Plan) { p.Keep[3] = -1 },
	} {
		s, p := right()
		s.Rules[0] = api.Rule{Op: api.QFill, Out: 2, A: []int{0}}
		wantFault(t, "the plan fits, before: "+what, s, p, api.ErrForm, 0)
		change(&p)
		wantFault(t, what, s, p, api.ErrRange, -1)
	}
}
