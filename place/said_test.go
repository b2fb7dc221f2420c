package place

import (
	"fmt"
	"slices"
	"testing"

	"loomwork/api"
	"loomwork/dead"
	"loomwork/fuse"
	"loomwork/live"
	"loomwork/order"
	"loomwork/sys"
)

// saidOver is what chapter 13 says of Over, word by word.
func saidOver(s api.System, r api.Rule, u int) bool {
	if u < 0 || u >= len(s.Vars) || r.Out < 0 || r.Out >= len(s.Vars) {
		return false
	}
	over := r.Op == api.QEach || r.Op == api.QScanE
	over = over && s.Vars[r.Out].N == s.Vars[u].N
	for _, v := range r.A {
		over = over && v != u
	}
	for _, p := range r.E {
		inPAt := p.Op == api.PAt && p.V == u
		inPArr := p.Op == api.PArr && p.V == u && p.N != 0
		over = over && !inPAt && !inPArr
	}
	return over
}

func cellsOf(s api.System, variable int) int {
	if s.Vars[variable].N == 0 {
		return 1
	}
	return s.Vars[variable].N
}

// saidPlan is what chapter 13 says of Make, cell by cell: each cell knows which variables
// were laid on it.
type saidPlan struct {
	api.System
	api.Plan
	spans []api.Span
	on    [][]int
	first int // the first cell behind all that is kept
}

// mayLie tells whether a variable may lie from that cell on; maker is its rule's number,
// or -1.
func (p *saidPlan) mayLie(variable, at, maker int) bool {
	for cell := at; cell < at+cellsOf(p.System, variable) && cell < len(p.on); cell++ {
		for _, other := range p.on[cell] {
			one, that := p.spans[variable], p.spans[other]
			if that.To < one.From {
				continue
			}
			over := maker >= 0 && that.To == one.From && that.From < one.From && p.At[other] == at
			if !over || !saidOver(p.System, p.Rules[maker], other) {
				return false
			}
		}
	}
	return true
}

// lie lays a variable, and tells whether there are enough cells.
func (p *saidPlan) lie(variable, maker int) bool {
	at := p.first
	for !p.mayLie(variable, at, maker) {
		at++
	}
	p.At[variable] = at
	for cell := at; cell < at+cellsOf(p.System, variable); cell++ {
		for cell >= len(p.on) {
			p.on = append(p.on, nil)
		}
		p.on[cell] = append(p.on[cell], variable)
	}
	p.Cells = len(p.on)
	return p.Cells <= api.MaxCells
}

// said answers the plan, or ErrMany.
func said(s api.System, spans []api.Span) (api.Plan, api.Fault) {
	p := saidPlan{System: s, spans: spans, first: 1}
	for range s.Vars {
		p.At = append(p.At, -1)
	}
	for _, r := range s.Rules {
		if r.Op != api.QPre {
			p.Keep = append(p.Keep, -1)
			continue
		}
		p.Keep = append(p.Keep, p.first)
		p.first += cellsOf(s, r.Out)
	}
	p.on = make([][]int, p.first)
	p.Cells = p.first
	if p.Cells > api.MaxCells {
		return api.Plan{}, api.Fault{Code: api.ErrMany, At: -1}
	}
	for _, variable := range s.In {
		if !p.lie(variable, -1) {
			return api.Plan{}, api.Fault{Code: api.ErrMany, At: -1}
		}
	}
	for number, r := range s.Rules {
		if !p.lie(r.Out, number) {
			return api.Plan{}, api.Fault{Code: api.ErrMany, At: number}
		}
	}
	return p.Plan, api.Fault{}
}

// holdAgainstSaid is handed systems alone; it answers the code of the fault that must be
// told.
func holdAgainstSaid(t *testing.T, what string, s api.System) int {
	t.Helper()
	spans, fault := live.Spans(s)
	var want api.Plan
	if fault.Code == 0 {
		want, fault = said(s, spans)
	}
	if fault.Code != 0 {
		wantFault(t, what, s, fault.Code, fault.At)
	} else {
		wantPlan(t, what, s, want.At, want.Keep, want.Cells)
		wantApart(t, what, s, spans, want)
		wantBounds(t, what, s, want.Cells)
	}
	if t.Failed() {
		t.Fatalf("%s: %.2000s", what, plain(s))
	}
	return fault.Code
}

// wantApart: nothing is lost: no two variables that are needed at the same time have a cell in
// common, but one that is made over another one at its last use.
func wantApart(t *testing.T, what string, s api.System, spans []api.Span, got api.Plan) {
	t.Helper()
	on := make([][]int, got.Cells)
	for variable, place := range got.At {
		for cell := place; place >= 0 && cell < place+cellsOf(s, variable); cell++ {
			for _, other := range on[cell] {
				one, that := spans[variable], spans[other]
				apart := one.To < that.From || that.To < one.From
				if !apart && !isOver(s, spans, got, variable, other) && !isOver(s, spans, got, other, variable) {
					t.Errorf("%s: %d and %d lie at the cell %d: %v", what, variable, other, cell, got)
				}
			}
			on[cell] = append(on[cell], variable)
		}
	}
}

// isOver tells whether a variable is made over another one at its last use.
func isOver(s api.System, spans []api.Span, plan api.Plan, variable, other int) bool {
	maker := slices.IndexFunc(s.Rules, func(r api.Rule) bool { return r.Out == variable })
	return maker >= 0 && spans[other].To == maker && spans[other].From < maker &&
		plan.At[other] == plan.At[variable] && saidOver(s, s.Rules[maker], other)
}

// wantBounds: no more cells, and no fewer, than the chapter says.
func wantBounds(t *testing.T, what string, s api.System, cells int) {
	t.Helper()
	kept, all, widest := 0, 0, 0
	for _, variable := range s.In {
		all += cellsOf(s, variable)
	}
	for _, r := range s.Rules {
		all += cellsOf(s, r.Out)
		widest = max(widest, cellsOf(s, r.Out))
		if r.Op == api.QPre {
			kept += cellsOf(s, r.Out)
		}
	}
	most, _ := live.Most(s)
	if cells > 1+kept+all || cells < 1+kept+most-widest {
		t.Errorf("%s: %d cells, kept %d, all %d, most %d, widest %d", what, cells, kept, all, most, widest)
	}
}

// choices are rules that make an array of 1 to 3 cells: of nothing, or of one of the
// variables, cell by cell, or by PAt; or that keep it by QPre.
func choices(vars []api.Var) []api.Rule {
	var all []api.Rule
	out := len(vars)
	for size := 1; size <= 3; size++ {
		wide := func(steps ...api.Push) {
			r := each(out, steps...)
			r.N = int64(size) // a field that it does not have
			all = append(all, r)
		}
		wide(num(1))
		for v, of := range vars {
			wide(num(0), num(1), at(v))
			if of.N >= size {
				wide(arr(v, 0))
			}
			if of.N == size {
				r := pre(out, v, v)
				r.N = int64(size)
				all = append(all, r)
			}
		}
	}
	return all
}

// eachSmall hands over all systems of up to so many of those rules behind In.
func eachSmall(s api.System, count int, take func(s api.System)) {
	take(s)
	if count == 0 {
		return
	}
	for _, r := range choices(s.Vars) {
		longer := api.System{In: s.In}
		longer.Vars = append(slices.Clone(s.Vars), api.Var{Elem: 'i', N: int(r.N)})
		longer.Rules = append(slices.Clone(s.Rules), r)
		eachSmall(longer, count-1, take)
	}
}

func subsets(count int) [][]int {
	all := [][]int{nil}
	for v := range count {
		for _, set := range all {
			all = append(all, append(slices.Clone(set), v))
		}
	}
	return all
}

// P13: all systems of up to three rules over arrays that are In, whatever is Out.
func TestAllSmall(t *testing.T) {
	systems := 0
	for _, given := range []string{"i1 i2", "i2", ""} {
		s := api.System{Vars: types(given)}
		s.In = upTo(0, len(s.Vars))
		eachSmall(s, 3, func(s api.System) {
			for _, told := range subsets(len(s.Vars)) {
				s.Out = told
				holdAgainstSaid(t, given, s)
				systems++
			}
		})
	}
	if systems < 100000 {
		t.Errorf("%d systems", systems)
	}
}

// P13: systems of all kinds of rules, held against the chapter's words.
func TestThrown(t *testing.T) {
	codes := map[int]int{}
	reused := 0
	for i := range 20000 {
		s := thrown(i, 16)
		wantSame(t, fmt.Sprint("thrown ", i, " is a system"), sys.Check(s), api.Fault{})
		codes[holdAgainstSaid(t, fmt.Sprint("thrown ", i), s)]++
		normal, _ := fuse.Norm(s)
		codes[holdAgainstSaid(t, fmt.Sprint("thrown ", i, ", its normal form"), normal)]++
		if got, _ := Make(normal); overCount(normal, got) > 0 {
			reused++
		}
	}
	if codes[0] < 20000 || codes[api.ErrRound] < 4000 || reused < 3000 {
		t.Errorf("codes: %v; %d made over another one", codes, reused)
	}
}

// overCount answers how many variables are made over another one.
func overCount(s api.System, plan api.Plan) int {
	count := 0
	spans, _ := live.Spans(s)
	for _, r := range s.Rules {
		for other := range spans {
			if len(plan.At) > 0 && isOver(s, spans, plan, r.Out, other) {
				count++
			}
		}
	}
	return count
}

// P13: systems with so wide arrays that some have more cells than there may be.
func TestWide(t *testing.T) {
	codes := map[int]int{}
	for i := range 600 {
		d := dice(i)
		s := api.System{}
		wide := func() { s.Vars = append(s.Vars, api.Var{Elem: 'i', N: 100 + d.below(201)}) }
		for range d.below(35) {
			wide()
		}
		s.In = upTo(0, len(s.Vars))
		for range d.below(30) {
			steps := []api.Push{num(1)}
			for range min(len(s.Vars), d.below(3)) {
				steps = append(steps, num(0), num(1), at(d.below(len(s.Vars))), bin(api.KAdd))
			}
			s.Rules = append(s.Rules, each(len(s.Vars), steps...))
			wide()
		}
		for v := range s.Vars {
			if d.below(3) > 0 {
				s.Out = append(s.Out, v)
			}
		}
		codes[holdAgainstSaid(t, fmt.Sprint("wide ", i), s)]++
	}
	if codes[0] < 100 || codes[api.ErrMany] < 100 {
		t.Errorf("codes: %v", codes)
	}
}

// P13: of what the layers above answer: what is sorted, trimmed and fused.
func TestOfLayersAbove(t *testing.T) {
	for i := range 3000 {
		s := sortedThrown(i, 12)
		trimmed, _ := dead.Trim(s)
		fused, _ := fuse.Fuse(trimmed)
		for _, of := range []api.System{s, trimmed, fused} {
			if holdAgainstSaid(t, fmt.Sprint("thrown ", i), of) != 0 {
				t.Fatalf("thrown %d: a fault", i)
			}
		}
	}
}

// sortedThrown is thrown, sorted.
func sortedThrown(i, most int) api.System {
	s, _ := order.Sort(thrown(i, most))
	return s
}
