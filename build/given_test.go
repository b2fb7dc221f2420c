package build

import (
	"slices"
	"testing"

	"loomwork/api"
)

// P15.1: Put are In's cells, one behind the other; Get are Out's; bools are those of In
// that are truths.
func TestLists(t *testing.T) {
	s := with("i b i3 b2 b1 i1 b")
	p := lying(20, "4 9 1 12 14 11 10")
	wantLists(t, "each type", s, p, "4 9 1..3 12 13 14 11 10 > > 9 12 13 14 10")
	s.Out = ints("0 1 2 3 4 5 6")
	wantLists(t, "all are Out", s, p, "4 9 1..3 12 13 14 11 10 > 4 9 1..3 12 13 14 11 10 > 9 12 13 14 10")
	s.In, s.Out = ints("6 3 2"), ints("2 6")
	wantLists(t, "another order", s, p, "10 12 13 1..3 > 1..3 10 > 10 12 13")
	s.In, s.Out = ints("2 3 6"), ints("6 2 2 6 6")
	wantLists(t, "Out several times", s, p, "1..3 12 13 10 > 10 1..3 1..3 10 10 > 12 13 10")
	s.In, s.Out = ints("0 2 5"), nil
	wantLists(t, "numbers alone", s, p, "4 1..3 11 > >")
	s.In = ints("4 1 3")
	wantLists(t, "truths alone", s, p, "14 9 12 13 > > 14 9 12 13")
	s.In = ints("3 3")
	wantFault(t, "In twice", s, p, api.ErrTwice, -1)
}

// P15.1: what rules make is told, too; truths that are made are none of bools.
func TestMadeIsTold(t *testing.T) {
	s := with("i b2 b2 i", each(2, "a1 not"), pre(3, 0, 0))
	s.Out = ints("3 2 1 2")
	wantLists(t, "made", s, lying(20, "4 5 7 9 > -1 10"), "4 5 6 > 9 7 8 5 6 7 8 > 5 6")
	wantLists(t, "made where what is given lies", s, lying(20, "4 5 5 4 > -1 10"), "4 5 6 > 4 5 6 5 6 5 6 > 5 6")
}

// P15.1: systems without rules, without In, without Out, and with nothing at all.
func TestWithout(t *testing.T) {
	wantLists(t, "nothing", api.System{}, api.Plan{Cells: 1}, "> >")
	wantSteps(t, "nothing", api.System{}, api.Plan{Cells: 1})
	s := with("i i2")
	wantSteps(t, "no rules", s, lying(4, "1 2"))
	wantLists(t, "no rules, no Out", s, lying(4, "1 2"), "1 2 3 > >")
	s.In, s.Out = nil, nil
	wantLists(t, "variables alone", s, lying(4, "-1 -1"), "> >")
	wantLists(t, "variables alone, that seem to lie somewhere", s, lying(1, "9999 0"), "> >")
	s = with("i2", each(0, "k"))
	s.Out = []int{0}
	wantLists(t, "no In", s, lying(3, "1 > -1"), "> 1 2 >")
	wantSteps(t, "no In", s, lying(3, "1 > -1"), all(1, 2, "k"))
	s.Out = nil
	wantLists(t, "no In, no Out", s, lying(3, "1 > -1"), "> >")
	for _, empty := range [][]int{nil, {}} {
		s := api.System{Vars: []api.Var{}, In: empty, Out: empty, Rules: []api.Rule{}}
		wantSteps(t, "empty lists", s, api.Plan{At: empty, Keep: empty, Cells: 1})
		s = with("i", api.Rule{Op: api.QEach, A: empty, E: tree("1")})
		wantSteps(t, "an empty A", s, api.Plan{At: []int{1}, Keep: []int{-1}, Cells: 2}, one(1, "1"))
		s = with("i", api.Rule{Op: api.QPre, A: []int{0, 0}, E: []api.Push{}})
		wantFault(t, "an empty E", s, api.Plan{At: []int{1}, Keep: []int{1}, Cells: 2}, api.ErrRound, -1)
	}
}

// P15.1: as many cells of In and Out as there may be.
func TestManyCells(t *testing.T) {
	s := api.System{Vars: slices.Repeat(types("b300"), 20)}
	s.Vars[19].N = 299
	p := api.Plan{Cells: api.MaxCells}
	for v := range s.Vars {
		s.In, p.At = append(s.In, v), append(p.At, 1+300*v)
	}
	s.Out = slices.Repeat([]int{0}, api.MaxVars)
	l, bools := made(t, "In in all cells", s, p)
	wantSame(t, "Put", l.Put, upTo(1, 6000))
	wantSame(t, "bools", bools, upTo(1, 6000))
	wantSame(t, "Get", l.Get, slices.Repeat(upTo(1, 301), 400))
	holdAgainstSaid(t, "In in all cells", s, p)
}

// P15.1: In's cells are told, however many there are: over one another they are more than
// there are cells.
func TestGivenOverOneAnother(t *testing.T) {
	s := api.System{Vars: slices.Repeat(types("b300"), api.MaxVars), In: upTo(0, api.MaxVars)}
	p := api.Plan{At: slices.Repeat([]int{1}, api.MaxVars), Cells: 301}
	l, bools := made(t, "over one another", s, p)
	wantSame(t, "Put", l.Put, slices.Repeat(upTo(1, 301), 400))
	wantSame(t, "bools", bools, l.Put)
	wantSame(t, "steps", l.Steps, []api.Loop{one(0, "1")})
}
