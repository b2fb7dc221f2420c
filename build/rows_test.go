package build

import (
	"fmt"
	"slices"
	"strings"
	"testing"

	"loomwork/api"
	"loomwork/dead"
	"loomwork/fuse"
	"loomwork/loop"
	"loomwork/mean"
	"loomwork/order"
	"loomwork/place"
)

// thrownRow is a row that a system may be given.
func thrownRow(d *dice, s api.System) []int64 {
	row := []int64{}
	for _, v := range s.In {
		for range cellsOf(s.Vars[v]) {
			if s.Vars[v].Elem == 'b' {
				row = append(row, int64(d.below(2)))
			} else {
				row = append(row, pick(d, []int64{-3, -1, 0, 1, 2, 3, 4, 5, 100, least, greatest}))
			}
		}
	}
	return row
}

// wantMeant gives rows to the loops of a system that lies as the plan says, and asks that
// they tell what another one means, from which it may have come; it answers how many later
// rows told something else than the first one.
func wantMeant(t *testing.T, what string, s api.System, p api.Plan, other api.System, rows int) int {
	t.Helper()
	l, _ := made(t, what, s, p)
	machine, fault := loop.New(l)
	meaning, otherFault := mean.New(other)
	if fault.Code != 0 || otherFault.Code != 0 {
		t.Fatalf("%s: faults %v and %v", what, fault, otherFault)
	}
	d, changes := dice(len(s.Vars)), 0
	var first []int64
	for i := range rows {
		in := thrownRow(&d, s)
		want, otherFault := meaning.Row(in)
		got, fault := machine.Row(in)
		if fault != otherFault || !slices.Equal(got, want) {
			t.Fatalf("%s, row %d, %v: %.600s, fault %v, want %.600s: %.2000s, %.600s", what, i, in, plain(got), fault, plain(want), plain(s), plain(p))
		}
		if machine.Cells()[0] != 1 {
			t.Fatalf("%s, row %d: the cell 0 does not say so", what, i)
		}
		if i == 0 {
			first = want
		} else if !slices.Equal(first, want) {
			changes++
		}
	}
	return changes
}

func planOf(t *testing.T, what string, s api.System) api.Plan {
	t.Helper()
	p, fault := place.Make(s)
	if fault.Code != 0 {
		t.Fatalf("%s: place.Make: %v", what, fault)
	}
	return p
}

// What follows: by place.Make's plan rows tell what the system means; and by plans in
// which all things lie apart.
func TestRows(t *testing.T) {
	changes := 0
	for i := range 4000 {
		s, d := thrown(i, 14), dice(i)
		for _, r := range s.Rules {
			if d.below(3) == 0 {
				s.Out = append(s.Out, r.Out)
			}
		}
		changes += wantMeant(t, fmt.Sprint("thrown ", i), s, planOf(t, "thrown", s), s, 5)
		wantMeant(t, fmt.Sprint("thrown ", i, " apart"), s, apart(&d, s), s, 3)
		other := strange(&d, s)
		wantMeant(t, fmt.Sprint("thrown ", i, " strange"), other, planOf(t, "strange", other), s, 2)
	}
	if changes < 10000 {
		t.Errorf("%d rows told something else", changes)
	}
}

// What follows: what is sorted, trimmed, fused and laid out tells what the system meant
// from which it came, many rows long.
func TestFusedRows(t *testing.T) {
	gone := 0
	for i := range 2000 {
		s, d := thrown(i, 20), dice(i)
		shuffle(&d, s.Rules)
		sorted, _ := order.Sort(s)
		trimmed, _ := dead.Trim(sorted)
		fused, fault := fuse.Fuse(trimmed)
		wantSame(t, "Fuse's fault", fault, api.Fault{})
		gone += len(trimmed.Rules) - len(fused.Rules)
		wantMeant(t, fmt.Sprint("thrown ", i, " fused"), fused, planOf(t, "fused", fused), s, 30)
	}
	if gone < 300 {
		t.Errorf("%d rules went", gone)
	}
}

// wantTold gives rows to loops, "3 > 3" each.
func wantTold(t *testing.T, what string, s api.System, p api.Plan, rows ...string) {
	t.Helper()
	l, _ := made(t, what, s, p)
	m, fault := loop.New(l)
	wantSame(t, what+": New's fault", fault, api.Fault{})
	for _, text := range rows {
		given, told, _ := strings.Cut(text, ">")
		var in []int64
		for _, n := range ints(given) {
			in = append(in, int64(n))
		}
		got, fault := m.Row(in)
		wantSame(t, what+": "+text, []any{got, fault}, []any{ints(told), api.Fault{}})
	}
}

// What follows: what a QPre keeps is of the row ahead up to the last rule, whatever the
// order of rules.
func TestPreRows(t *testing.T) {
	s := with("i i i", pre(1, 0, 2), each(2, "s1 s0 add"))
	s.Out = []int{1, 2}
	wantTold(t, "sums", s, planOf(t, "sums", s), "3 > 3 6", "4 > 6 10", "5 > 10 15")
	s = with("i i i i", pre(1, 0, 0), pre(2, 1, 1), pre(3, 2, 2))
	s.Out = []int{3, 2, 1, 0}
	wantTold(t, "one behind the other", s, planOf(t, "chain", s), "1 > 1 1 1 1", "2 > 1 1 1 2", "3 > 1 1 2 3", "4 > 1 2 3 4", "5 > 2 3 4 5")
	s = with("i i i", pre(1, 0, 2), pre(2, 0, 1))
	s.Out = []int{1, 2}
	wantTold(t, "of one another", s, planOf(t, "two", s), "1 > 1 1", "2 > 1 1", "3 > 1 1")
	s = with("i2 i2 i2", pre(1, 0, 0), cat(2, 1, 0))
	s.Vars[2].N = 4
	s.Out = []int{2}
	wantTold(t, "arrays", s, planOf(t, "arrays", s), "1 2 > 1 2 1 2", "3 4 > 1 2 3 4", "5 6 > 3 4 5 6")
	s = with("b b", pre(1, 0, 1))
	s.Out = []int{1}
	wantTold(t, "of itself", s, planOf(t, "of itself", s), "1 > 1", "0 > 1", "1 > 1")
}

// What follows: arrays of as many cells as there may be.
func TestWideRows(t *testing.T) {
	s := with("i300 i300 i i300 i i300 b300 i300",
		each(1, "a0 k add"), foldE(api.KAdd, 4, 300, 2, "a1 a0 mul"), scanE(api.KMax, 3, 2, "a0"),
		pre(5, 3, 1), each(6, "a5 a0 less"), each(7, "a6 s4 a5 sel"))
	s.Out = upTo(0, 8)
	changes := wantMeant(t, "wide", s, planOf(t, "wide", s), s, 6)
	s.Out = []int{7}
	changes += wantMeant(t, "wide, one Out", s, planOf(t, "wide", s), s, 6)
	wantSame(t, "how many rows told something else", changes, 10)
}
