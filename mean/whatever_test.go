package mean

import (
	"fmt"
	"slices"
	"testing"

	"loomwork/api"
	"loomwork/inst"
	"loomwork/order"
	"loomwork/syntax"
)

// anything is a system of whatever numbers, with lists that may be nil.
func anything(d *dice) api.System {
	number := func() int {
		if d.below(3) > 0 {
			return d.below(18)
		}
		return pick(d, []int{-1, -2, 300, 301, 400, 1 << 32, 1<<32 + 1, greatest, least, least + 1})
	}
	ints := func() []int {
		var list []int
		for range d.below(5) {
			list = append(list, number())
		}
		return list
	}
	s := api.System{In: ints(), Out: ints()}
	for range d.below(5) {
		s.Vars = append(s.Vars, api.Var{Elem: byte(pick(d, []int{'i', 'b', 0, 255})), N: number()})
	}
	for range d.below(4) {
		r := api.Rule{Op: number(), K: number(), Out: number(), N: int64(number()), A: ints()}
		for range d.below(4) {
			r.E = append(r.E, api.Push{Op: number(), K: number(), V: number(), N: int64(number())})
		}
		s.Rules = append(s.Rules, r)
	}
	return s
}

// P1: no call panics, whatever it is given.
func TestAnything(t *testing.T) {
	d := dice(7)
	means := 0
	for i := range 40000 {
		s := anything(&d)
		if i%4 == 0 {
			s = thrown(i%997, 4)
			slip(&d, &s)
		}
		kept := plain(s)
		for _, l := range [][]int{nil, s.In, s.Out, {-1, 0, 1, 99, greatest, least}} {
			Width(s, l)
		}
		_, want := order.Sort(s)
		m, fault := New(s)
		if fault != want || (m == nil) != (fault.Code != 0) {
			t.Fatalf("thrown %d: %v, fault %v, want %v", i, m, fault, want)
		}
		if m != nil {
			means++
			wantWhateverRows(t, &d, m, s)
		}
		if plain(s) != kept {
			t.Fatalf("thrown %d: %v, it was %v", i, s, kept)
		}
	}
	if means < 2000 {
		t.Errorf("%d Means alone", means)
	}
}

// wantWhateverRows gives rows of whatever numbers, and holds what is told of those
// that are rows against the chapter's words.
func wantWhateverRows(t *testing.T, d *dice, m *Mean, s api.System) {
	t.Helper()
	var been [][]int64
	width := Width(s, s.In)
	for range 6 {
		var row []int64
		for range pick(d, []int{width, width, width, width, d.below(9)}) {
			row = append(row, pick(d, []int64{0, 0, 1, 1, 1, 2, -1, greatest, least}))
		}
		if at := placeOfFault(s, row); at != none {
			wantWrong(t, "whatever", m, row, at)
			continue
		}
		been = append(been, row)
		wantTold(t, "whatever", m, row, historyOf(s, been...).told(len(been)-1))
	}
}

const none = -2

// placeOfFault is where ErrRow is told.
func placeOfFault(s api.System, row []int64) int {
	if len(row) != Width(s, s.In) {
		return -1
	}
	for _, place := range placesOfTruths(s) {
		if row[place] < 0 || row[place] > 1 {
			return place
		}
	}
	return none
}

// P1: every call ends: lists that are long, and systems as great as they may be.
func TestEndless(t *testing.T) {
	long := make([]int, 1<<20)
	wantFault(t, "In", api.System{Vars: types("i"), In: long}, api.ErrMany, -1)
	wantFault(t, "rules", api.System{Rules: make([]api.Rule, 1<<18)}, api.ErrMany, -1)
	wantFault(t, "A", api.System{Vars: types("i"), Rules: []api.Rule{{Op: api.QPre, A: long}}}, api.ErrForm, 0)
	steps := slices.Repeat([]api.Push{sca(0)}, 1<<20)
	s := api.System{Vars: types("i i"), Out: []int{0, 1}, Rules: []api.Rule{{Op: api.QCopy, Out: 0, A: []int{1}, E: steps}, {Op: api.QNum, Out: 1, N: 6, E: steps}}}
	wantRows(t, "rules with steps that they do not have", s, "> 6 6")
	wantWrong(t, "a long row", begun(t, s), make([]int64, 1<<24), -1)
}

// P1: as many rules, of as many cells and steps as there may be.
func TestMost(t *testing.T) {
	steps := []api.Push{arr(0, 0)}
	for len(steps)+2 <= api.MaxTree {
		steps = append(steps, idx(1), bin(api.KAdd))
	}
	s := api.System{Vars: slices.Repeat(types("i300"), api.MaxVars), In: []int{0}}
	for v := 1; v < api.MaxVars; v++ {
		each := eachOf(v, slices.Clone(steps)...)
		each.E[0].V = v - 1
		s.Rules = append(s.Rules, each)
		s.Out = append(s.Out, v)
	}
	slices.Reverse(s.Rules)
	m := begun(t, s)
	for row := range 3 {
		in, want := make([]int64, 300), []int64{}
		for k := range in {
			in[k] = int64(row * k)
		}
		for v := 1; v < api.MaxVars; v++ {
			for k := range in {
				want = append(want, in[k]+int64(v*11*(k+1)))
			}
		}
		wantTold(t, "most", m, in, want)
	}
}

// P9.1: as many QPre as there may be, each of the one ahead: a long way.
func TestMostPre(t *testing.T) {
	const most = api.MaxVars
	s := api.System{Vars: slices.Repeat(types("i"), most), In: []int{0}, Out: []int{most - 1, 1}}
	for v := 1; v < most; v++ {
		s.Rules = append(s.Rules, pre(v, 0, v-1))
	}
	m := begun(t, s)
	for row := int64(0); row < most+20; row++ {
		wantTold(t, "a long way", m, []int64{row}, []int64{max(0, row-most+1), max(0, row-1)})
	}
}

// Lists may be nil or empty, and are the same either way.
func TestEmptyLists(t *testing.T) {
	s := api.System{Vars: types("i"), In: []int{}, Out: []int{0}, Rules: []api.Rule{{Op: api.QNum, N: 3, A: []int{}, E: []api.Push{}}}}
	wantRows(t, "empty", s, "> 3")
	s.In, s.Rules[0].A, s.Rules[0].E = nil, nil, nil
	wantRows(t, "nil", s, "> 3")
	wantRows(t, "nothing, empty", api.System{Vars: []api.Var{}, In: []int{}, Out: []int{}, Rules: []api.Rule{}}, ">", ">")
}

// meanOf is a text's program at its beginning.
func meanOf(t *testing.T, text string) *Mean {
	t.Helper()
	p, fault := syntax.Parse(text)
	if fault.Code != 0 {
		t.Fatalf("Parse(%q): fault %v", text, fault)
	}
	s, fault := inst.Make(p)
	if fault.Code != 0 {
		t.Fatalf("Make(%q): fault %v", text, fault)
	}
	return begun(t, s)
}

// The document's examples, and some more programs.
func TestPrograms(t *testing.T) {
	programs := []struct {
		text string
		rows []string
	}{
		{"node main(x: int) -> (y: int) { y = x + pre(0, y); }", []string{"3 > 3", "4 > 7", "5 > 12"}},
		{"node main(x: int) -> (y: int) { y = pre(5, x); }", []string{"1 > 5", "2 > 1", "3 > 2"}},
		{"node main(a: int^3, b: int^3) -> (s: int) { s = fold(add, 0, map(mul, a, b)); }", []string{"1 2 3 4 5 6 > 32", "1 1 1 ! -1", "0 0 1 7 7 7 > 7"}},
		{"node main(q: int^3) -> (w: int^3) { w = with(q, 1, 5); }", []string{"7 8 9 > 7 5 9"}},
		{"node main() -> (f: int) { var g: int; f = pre(0, g); g = pre(1, f + g); }", []string{"> 0", "> 1", "> 1", "> 2", "> 3", "> 5", "> 8"}},
		{"node main(c: bool, x: int) -> (n: int) { n = if c then 0 else pre(0, n) + x; }", []string{"0 2 > 2", "0 3 > 5", "2 3 ! 0", "1 9 > 0", "0 4 > 4"}},
		{"node count(up: bool) -> (n: int) { n = pre(0, n) + (if up then 1 else 0); } node main(a: bool, b: bool) -> (x: int, y: int) { x = call count(a); y = call count(b); }",
			[]string{"1 0 > 1 0", "1 1 > 2 1", "0 1 > 2 2", "1 7 ! 1", "1 1 > 3 3"}},
		{"node main(x: int) -> (l: int^4) { l = cat(slice(pre(fill(0, 4), l), 1, 3), fill(x, 1)); }", []string{"1 > 0 0 0 1", "2 > 0 0 1 2", "3 > 0 1 2 3", "4 > 1 2 3 4", "5 > 2 3 4 5"}},
		{"node main(a: int^3, i: int) -> (x: int, s: int^3) { x = a[i : -1]; s = scan(max, x, a); }", []string{"4 9 2 0 > 4 4 9 9", "4 9 2 3 > -1 4 9 9", "4 9 2 1 > 9 9 9 9"}},
	}
	for _, p := range programs {
		m := meanOf(t, p.text)
		for i, row := range p.rows {
			wantRow(t, fmt.Sprint(p.text, ", row ", i), m, row)
		}
	}
}
