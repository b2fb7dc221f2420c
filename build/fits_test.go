package build

import (
	"fmt"
	"slices"
	"testing"

	"loomwork/api"
)

// planned is a system with things of each size that are In, made, kept, and neither; and
// a plan that fits it, in which each cell is something's.
func planned() (api.System, api.Plan) {
	s := with("i b3 i300 b i1 i2 i300 b3 i5 i",
		each(4, "s0"), cat(5, 4, 4), each(8, "s0"), pre(6, 2, 2), pre(7, 1, 1), pre(9, 0, 0))
	s.In, s.Out = []int{0, 1, 2}, []int{9, 6, 1}
	return s, lying(921, "1 2 5 -1 305 306 308 608 611 616 > -1 -1 -1 617 917 920")
}

const neither = 3 // of planned's variables

func isRange(t *testing.T, what string, s api.System, p api.Plan, isFit bool) {
	t.Helper()
	want := api.ErrRange
	if isFit {
		want = 0
	}
	wantSame(t, what+": the code", holdAgainstSaid(t, what, s, p), want)
}

// strangePlaces are cells that are none, wherever the last one is.
var strangePlaces = []int{0, -1, -2, -300, least, least + 1, greatest, greatest - 1, greatest - 300, 1 << 32, 1<<32 + 1, api.MaxCells, api.MaxCells + 1}

// P15.1: each variable that is In or made must have all its cells from the cell 1 to the
// last one; of one that is neither At may be anything.
func TestPlaces(t *testing.T) {
	s, p := planned()
	isRange(t, "planned", s, p, true)
	at := slices.Clone(p.At)
	for v := range s.Vars {
		try := func(place int, isFit bool) {
			t.Helper()
			p.At[v] = place
			isRange(t, fmt.Sprintf("%d of %d cells at %d", v, s.Vars[v].N, place), s, p, isFit || v == neither)
			p.At[v] = at[v]
		}
		last := p.Cells - max(1, s.Vars[v].N)
		try(1, true)
		try(2, true)
		try(last-1, true)
		try(last, true)
		try(last+1, false)
		try(last+2, false)
		try(p.Cells-1, s.Vars[v].N <= 1)
		try(p.Cells, false)
		for _, place := range strangePlaces {
			try(place, false)
		}
	}
}

// P15.1: what a QPre keeps must have all its cells from the cell 1 to the last one; of all
// others Keep must be below 0.
func TestKeep(t *testing.T) {
	s, p := planned()
	keep := slices.Clone(p.Keep)
	for number, r := range s.Rules {
		isPre := r.Op == api.QPre
		try := func(place int, isFit bool) {
			t.Helper()
			p.Keep[number] = place
			isRange(t, fmt.Sprintf("Op %d keeps %d cells at %d", r.Op, s.Vars[r.Out].N, place), s, p, isFit)
			p.Keep[number] = keep[number]
		}
		last := p.Cells - max(1, s.Vars[r.Out].N)
		try(1, isPre)
		try(2, isPre)
		try(last-1, isPre)
		try(last, isPre)
		try(last+1, false)
		try(p.Cells-1, isPre && s.Vars[r.Out].N <= 1)
		try(p.Cells, false)
		for _, place := range strangePlaces {
			try(place, !isPre && place < 0)
		}
	}
}

// P15.1: At has as many as there are variables, and Keep as there are rules.
func TestLengths(t *testing.T) {
	s, p := planned()
	change := func(what string, at, keep []int) {
		t.Helper()
		isRange(t, what, s, api.Plan{At: at, Keep: keep, Cells: p.Cells}, false)
	}
	change("At is too short", p.At[:len(p.At)-1], p.Keep)
	change("At is too long", append(slices.Clone(p.At), 1), p.Keep)
	change("At is too long by nothing", append(slices.Clone(p.At), -1), p.Keep)
	change("At is nil", nil, p.Keep)
	change("At is far too long", slices.Repeat([]int{1}, 1<<20), p.Keep)
	change("Keep is too short", p.At, p.Keep[:len(p.Keep)-1])
	change("Keep is too long", p.At, append(slices.Clone(p.Keep), -1))
	change("Keep is nil", p.At, nil)
	change("Keep is far too long", p.At, slices.Repeat([]int{-1}, 1<<20))
	change("they are each other", p.Keep, p.At)
	s = with("i i i", each(2, "1"))
	s.In = nil
	wantSteps(t, "two are neither", s, lying(2, "9 0 1 > -1"), one(1, "1"))
	isRange(t, "what is neither must stand there, too", s, lying(2, "9 1 > -1"), false)
	isRange(t, "no plan", s, api.Plan{}, false)
	isRange(t, "a plan of nothing", s, api.Plan{Cells: 2}, false)
}

// P15.1: Cells is from 1 to MaxCells.
func TestCells(t *testing.T) {
	var s api.System
	for _, cells := range []int{1, 2, 3, 5999, 6000} {
		wantSteps(t, fmt.Sprint("nothing in ", cells), s, api.Plan{Cells: cells})
	}
	for _, cells := range []int{0, -1, least, 6001, 6002, greatest, 1<<32 + 1} {
		isRange(t, fmt.Sprint("nothing in ", cells), s, api.Plan{Cells: cells}, false)
	}
	s = with("i i300", each(1, "s0"))
	wantSteps(t, "as many as there may be", s, lying(6000, "5999 5700 > -1"), all(5700, 300, "s5999"))
	isRange(t, "one more", s, lying(6001, "5999 5700 > -1"), false)
	isRange(t, "one more, behind the last one", s, lying(6000, "6000 5700 > -1"), false)
	isRange(t, "one more, behind the last one", s, lying(6000, "5999 5701 > -1"), false)
	wantSteps(t, "just as many as are needed", s, lying(301, "7 1 > -1"), all(1, 300, "s7"))
	isRange(t, "one less", s, lying(300, "7 1 > -1"), false)
	isRange(t, "one cell", with("i"), lying(1, "1"), false)
	isRange(t, "one cell, at 0", with("i"), lying(1, "0"), false)
	wantLists(t, "two cells", with("i"), lying(2, "1"), "1 > >")
	s, p := planned()
	for cells := 910; cells <= 930; cells++ {
		p.Cells = cells
		isRange(t, fmt.Sprint(cells, " cells"), s, p, cells >= 921)
	}
}

// eachPlan hands over all plans of so many variables and rules whose numbers are among
// those.
func eachPlan(variables, rules int, numbers []int, take func(p api.Plan)) {
	places := make([]int, variables+rules)
	var from func(i int)
	from = func(i int) {
		if i == len(places) {
			take(api.Plan{At: slices.Clone(places[:variables]), Keep: slices.Clone(places[variables:])})
			return
		}
		for _, n := range numbers {
			places[i] = n
			from(i + 1)
		}
	}
	from(0)
}

// P15.1: all plans of small systems.
func TestAllPlans(t *testing.T) {
	codes := map[int]int{}
	for _, s := range []api.System{
		with("i i i", pre(2, 0, 1)),
		with("i2 i i2", pre(2, 0, 0)),
		with("i i2", each(1, "s0")),
		with("i1 i2", cat(1, 0, 0)),
		with("i i3 i", foldE(api.KAdd, 2, 3, 0, "a1")),
		with("i b i2", scanE(api.KAdd, 2, 0, "s0")),
	} {
		s.Out = []int{len(s.Vars) - 1}
		eachPlan(len(s.Vars), len(s.Rules), upTo(-1, 6), func(p api.Plan) {
			for p.Cells = -1; p.Cells <= 6; p.Cells++ {
				codes[holdAgainstSaid(t, "a small system", s, p)]++
			}
		})
	}
	if codes[0] < 1000 || codes[api.ErrRange] < 10000 {
		t.Errorf("codes: %v", codes)
	}
}

// P15.1: things may lie over one another, and what is kept over what is made: the plan
// says where.
func TestOverOneAnother(t *testing.T) {
	s := with("i2 i2 i2 i1", cat(2, 3, 3), pre(1, 0, 1))
	s.In, s.Out = []int{0, 3}, []int{2, 1, 0}
	p := lying(9, "4 4 4 4 > -1 4")
	wantSteps(t, "all at one place", s, p, all(4, 1, "a4"), all(5, 1, "a4"), all(4, 2, "s0 a4 a4 sel"), all(4, 2, "a4"))
	wantLists(t, "all at one place", s, p, "4 5 4 > 4 5 4 5 4 5 >")
	p = lying(6, "1 2 3 2 > -1 4")
	wantSteps(t, "each partly over another one", s, p, all(3, 1, "a2"), all(4, 1, "a2"), all(2, 2, "s0 a4 a1 sel"), all(4, 2, "a2"))
	wantLists(t, "each partly over another one", s, p, "1 2 2 > 3 4 2 3 1 2 >")
}
