package sys

import (
	"slices"
	"testing"

	"loomwork/api"
)

func wantUses(t *testing.T, what string, r api.Rule, want ...int) {
	t.Helper()
	if got := Uses(r); !slices.Equal(got, want) {
		t.Errorf("%s: %v, want %v", what, got, want)
	}
}

// P7.2: variables of A, of every kind of rule.
func TestUsesOfParts(t *testing.T) {
	for op := api.QNum; op <= api.QScanE; op++ {
		wantUses(t, "none", api.Rule{Op: op, K: 9, Out: 5, N: 8})
		wantUses(t, "one", api.Rule{Op: op, K: 9, Out: 5, N: 8, A: []int{7}}, 7)
		wantUses(t, "out of order", api.Rule{Op: op, Out: 5, A: []int{9, 3, 4}}, 3, 4, 9)
		wantUses(t, "more than once", api.Rule{Op: op, Out: 5, A: []int{4, 2, 4}}, 2, 4)
		wantUses(t, "what it makes", api.Rule{Op: op, Out: 5, A: []int{5, 5, 5}}, 5)
	}
}

// P7.2: variables of steps, of any rule, those that have none as well.
func TestUsesOfSteps(t *testing.T) {
	for _, op := range append(upTo(api.QNum, api.QScanE+1), 0, -1, 17, greatest, least) {
		with := func(a []int, steps ...api.Push) api.Rule { return api.Rule{Op: op, Out: 5, A: a, E: steps} }
		wantUses(t, "PSca", with(nil, sca(6)), 6)
		wantUses(t, "PArr", with(nil, arr(6, 2)), 6)
		wantUses(t, "PAt", with(nil, at(6)), 6)
		wantUses(t, "of both", with([]int{8, 6}, sca(7), at(6), arr(1, 0)), 1, 6, 7, 8)
		wantUses(t, "once", with([]int{3, 3}, sca(3), arr(3, 0), at(3), sca(3)), 3)
		wantUses(t, "rising", with([]int{2}, sca(9), arr(4, 0), at(0), sca(4)), 0, 2, 4, 9)
	}
}

// P7.2: V of all other steps is none that a rule uses.
func TestUsesOfOtherSteps(t *testing.T) {
	for _, op := range []int{api.PNum, api.PIdx, api.PUn, api.PBin, api.PSel, 0, -1, 9, 10, greatest, least, 1<<32 + api.PSca} {
		step := api.Push{Op: op, K: 3, V: 9, N: 4}
		wantUses(t, "alone", each(0, step))
		wantUses(t, "among others", each(0, sca(2), step, arr(1, 0)), 1, 2)
		wantUses(t, "beside A", api.Rule{Op: api.QFoldE, A: []int{4}, E: []api.Push{step}}, 4)
	}
}

// P7.2: the numbers are told whatever they are: there is no system that they
// could be held against.
func TestUsesOfWhatever(t *testing.T) {
	wantUses(t, "nothing", api.Rule{})
	wantUses(t, "empty lists", api.Rule{A: []int{}, E: []api.Push{}})
	wantUses(t, "below 0", rule(api.QBin, 0, 0, -1, -9), -9, -1)
	wantUses(t, "far beyond", api.Rule{A: []int{greatest, 0, least}, E: []api.Push{sca(least), at(greatest - 1)}}, least, 0, greatest-1, greatest)
	var a, want []int
	var steps []api.Push
	for i := range 50000 {
		a, steps, want = append(a, 99999-2*i), append(steps, arr(2*i, 0), num(5)), append(want, 2*i, 2*i+1)
	}
	wantUses(t, "many", api.Rule{A: a, E: steps}, want...)
	wantUses(t, "one, many times", api.Rule{A: slices.Repeat([]int{4}, 1<<20), E: slices.Repeat(steps[:1], 1<<20)}, 0, 4)
}

// 'What holds everywhere': the list is new memory, and nothing behind the lists is
// read or written.
func TestUsesOwnMemory(t *testing.T) {
	a := []int{9, 3, 3, 77, 78}
	steps := []api.Push{sca(5), sca(4), sca(79)}
	r := api.Rule{A: a[:3], E: steps[:2]}
	got := Uses(r)
	if want := []int{3, 4, 5, 9}; !slices.Equal(got, want) {
		t.Errorf("%v, want %v", got, want)
	}
	for i := range got[:cap(got)] {
		got[:cap(got)][i] = -7
	}
	if !slices.Equal(a, []int{9, 3, 3, 77, 78}) || !slices.Equal(steps, []api.Push{sca(5), sca(4), sca(79)}) {
		t.Errorf("changed: %v, %v", a, steps)
	}
	alike := []int{1, 2, 3}
	if got := Uses(api.Rule{A: alike}); &got[0] == &alike[0] {
		t.Error("what was rising already was handed back")
	}
}

// The chapter's example.
func TestUsesExample(t *testing.T) {
	wantUses(t, "PArr V 3 N 1, PNum 2, PBin KMul", each(0, arr(3, 1), num(2), bin(api.KMul)), 3)
}
