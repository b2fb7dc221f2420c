package fuse

import (
	"fmt"
	"slices"
	"testing"

	"loomwork/api"
	"loomwork/mean"
	"loomwork/order"
	"loomwork/sys"
)

// thrownRow is a row that a system may be given.
func thrownRow(d *dice, s api.System) []int64 {
	row := []int64{}
	for _, v := range s.In {
		for range max(1, s.Vars[v].N) {
			if s.Vars[v].Elem == 'b' {
				row = append(row, int64(d.below(2)))
			} else {
				row = append(row, pick(d, []int64{-3, -1, 0, 1, 2, 3, 4, 5, 100, least, greatest}))
			}
		}
	}
	return row
}

// wantSameRows gives two systems the same rows, some of the later ones wrong, and
// asks that they tell the same, or that neither can be sorted; it answers how many
// later rows told something else than the first one.
func wantSameRows(t *testing.T, what string, s, other api.System, rows int) int {
	t.Helper()
	one, fault := mean.New(s)
	two, otherFault := mean.New(other)
	wantSame(t, what+": New's code", otherFault.Code, fault.Code)
	if fault.Code != 0 || otherFault.Code != 0 {
		return 0
	}
	d, changes := dice(len(s.Vars)), 0
	var first []int64
	for i := range rows {
		in := thrownRow(&d, s)
		if i > 0 && d.below(5) == 0 {
			in = append(in, 7)
		}
		want, fault := one.Row(in)
		got, otherFault := two.Row(in)
		wantSame(t, fmt.Sprint(what, ", row ", i), []any{got, otherFault}, []any{want, fault})
		if i == 0 {
			first = want
		} else if fault.Code == 0 && !slices.Equal(first, want) {
			changes++
		}
	}
	return changes
}

// wantNoMore asks that what was made of a system is one, sorted where that is, with
// no more rules, its variables, In and Out as they were, and the rules that are left
// in their order.
func wantNoMore(t *testing.T, what string, s, made api.System) {
	t.Helper()
	wantSame(t, what+": Check", sys.Check(made), api.Fault{})
	if order.Sorted(s) && !order.Sorted(made) {
		t.Errorf("%s: is not sorted any more", what)
	}
	wantSame(t, what+": variables, In, Out", with(made), with(s))
	last := -1
	for _, r := range made.Rules {
		number := slices.IndexFunc(s.Rules, func(other api.Rule) bool { return other.Out == r.Out })
		if number <= last {
			t.Errorf("%s: the rule that makes %d is not behind the one ahead of it", what, r.Out)
		}
		last = number
	}
}

// wantFollows asks for what stands under 'What follows', of a system's normal form,
// of what is fused of it, and of what is fused of that; it answers how many later
// rows told something else than the first one.
func wantFollows(t *testing.T, what string, s api.System) int {
	t.Helper()
	normal, fused := normOf(t, what, s), fusedOf(t, what, s)
	again := fusedOf(t, what+", fused", fused)
	wantNoMore(t, what+", normal", s, normal)
	wantSame(t, what+": how many rules the normal form has", len(normal.Rules), len(s.Rules))
	wantNoMore(t, what+", fused", normal, fused)
	wantNoMore(t, what+", fused again", fused, again)
	wantSame(t, what+": normal form of what is normal", normOf(t, what, normal), normal)
	wantSame(t, what+": normal form of what is fused", normOf(t, what, fused), fused)
	wantSame(t, what+": what is fused of the normal form", fusedOf(t, what, normal), fused)
	wantSameRows(t, what+", normal", s, normal, 4)
	wantSameRows(t, what+", fused again", s, again, 4)
	return wantSameRows(t, what+", fused", s, fused, 6)
}

// What follows: systems of all kinds of rules tell the same of rows, in the first one
// and in later ones, and stay sorted.
func TestThrownFollows(t *testing.T) {
	gone, sorted, changes := 0, 0, 0
	for i := range 6000 {
		s := thrown(i, 12)
		changes += wantFollows(t, fmt.Sprint("thrown ", i), s)
		if t.Failed() {
			t.Fatalf("%.3000s", plain(s))
		}
		gone += len(s.Rules) - len(fusedOf(t, "", s).Rules)
		if order.Sorted(s) {
			sorted++
		}
	}
	if gone < 4000 || sorted < 2000 || changes < 10000 {
		t.Errorf("%d rules went, %d systems were sorted, %d rows told something else", gone, sorted, changes)
	}
}

// What follows: what QPre keeps of the row ahead stays the same where trees go into
// what it keeps, and out of it.
func TestLaterRows(t *testing.T) {
	s := over("i i3 i i3 i3 i", pre(2, 0, 5), each(3, arr(1, 0), sca(2), add()), scanE(api.KAdd, 4, 2, arr(3, 0)),
		foldE(api.KSub, 5, 3, 0, arr(4, 0), idx(1), bin(api.KMul)))
	wantFused(t, "a sum of sums", s, pre(2, 0, 5), scanE(api.KAdd, 4, 2, arr(1, 0), sca(2), add()),
		foldE(api.KSub, 5, 3, 0, arr(4, 0), idx(1), bin(api.KMul)))
	if changes := wantFollows(t, "a sum of sums", s); changes == 0 {
		t.Errorf("all rows told the same")
	}
	m, _ := mean.New(fusedOf(t, "sums", over("i i i", pre(1, 0, 2), rule(api.QBin, api.KAdd, 2, 0, 1))))
	for i, want := range []int64{6, 10, 15} {
		told, fault := m.Row([]int64{int64(3 + i)})
		wantSame(t, "sums", []any{told, fault}, []any{[]int64{want}, api.Fault{}})
	}
}
