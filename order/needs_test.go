package order

import (
	"fmt"
	"slices"
	"testing"

	"loomwork/api"
)

func wantNeeds(t *testing.T, what string, r api.Rule, want ...int) {
	t.Helper()
	if got := Needs(r); !slices.Equal(got, want) {
		t.Errorf("%s: %.300s, want %.300s", what, plain(got), plain(want))
	}
}

// strange are numbers that no Op is.
var strange = []int{0, -1, -13, least, least + 1, 17, 18, 1<<32 + api.QPre, 1 << 40, greatest}

// P8: a rule without steps needs its A, rising, each once, whatever lies in E.
func TestNeedsWithoutSteps(t *testing.T) {
	ops := upTo(api.QNum, api.QPre)
	for _, op := range append(ops, 0, -1, -13, least, least+1) {
		with := func(a ...int) api.Rule {
			return api.Rule{Op: op, K: 1, Out: 5, N: 6, A: a, E: []api.Push{sca(7), arr(8, 1), at(9), sca(1)}}
		}
		what := fmt.Sprint("Op ", op)
		wantNeeds(t, what, with())
		wantNeeds(t, what, with(3), 3)
		wantNeeds(t, what, with(4, 2), 2, 4)
		wantNeeds(t, what, with(2, 4), 2, 4)
		wantNeeds(t, what, with(4, 4), 4)
		wantNeeds(t, what, with(3, 1, 3), 1, 3)
		wantNeeds(t, what, with(9, 3, 5), 3, 5, 9)
		wantNeeds(t, what, with(9, 3, 5, 9, 0, 3), 0, 3, 5, 9)
		wantNeeds(t, what, with(-2, greatest, least, -2), least, -2, greatest)
	}
}

// P8: a rule with steps needs its A, and what the steps PSca, PArr and PAt name;
// so do those of an Op beyond.
func TestNeedsWithSteps(t *testing.T) {
	for _, op := range []int{api.QEach, api.QFoldE, api.QScanE, 17, 18, 1<<32 + api.QPre, greatest} {
		with := func(a []int, steps ...api.Push) api.Rule { return api.Rule{Op: op, Out: 5, N: 6, A: a, E: steps} }
		what := fmt.Sprint("Op ", op)
		wantNeeds(t, what, with(nil))
		wantNeeds(t, what, with([]int{4, 2, 4}), 2, 4)
		wantNeeds(t, what, with(nil, sca(7)), 7)
		wantNeeds(t, what, with(nil, arr(7, 3)), 7)
		wantNeeds(t, what, with(nil, at(7)), 7)
		wantNeeds(t, what, with([]int{3, 8}, sca(9), arr(3, 1), at(1), sca(9), sca(4)), 1, 3, 4, 8, 9)
		wantNeeds(t, what, with([]int{-3}, sca(greatest), at(least)), least, -3, greatest)
		for _, other := range []int{api.PNum, api.PIdx, api.PUn, api.PBin, api.PSel, 0, -1, 9, least, greatest, 1<<32 + api.PSca} {
			step := api.Push{Op: other, K: 2, V: 9, N: 8}
			wantNeeds(t, fmt.Sprint(what, " with the step ", other), with([]int{4}, step, sca(2), step), 2, 4)
		}
	}
}

// P8: QPre with two A needs the first one alone.
func TestNeedsOfPre(t *testing.T) {
	steps := []api.Push{sca(7), arr(1, 0), at(3)}
	for _, e := range [][]api.Push{nil, {}, steps} {
		with := func(a ...int) api.Rule { return api.Rule{Op: api.QPre, Out: 5, A: a, E: e} }
		for _, first := range []int{0, 4, 5, -1, least, greatest} {
			for _, then := range []int{0, 3, 4, 5, 6, -2, least, greatest} {
				wantNeeds(t, "of two", with(first, then), first)
			}
		}
	}
}

// P8: QPre with fewer or more than two A needs all of them.
func TestNeedsOfOtherPre(t *testing.T) {
	for _, e := range [][]api.Push{nil, {}, {sca(7), arr(1, 0), at(3)}} {
		with := func(a ...int) api.Rule { return api.Rule{Op: api.QPre, Out: 5, A: a, E: e} }
		wantNeeds(t, "of none", with())
		wantNeeds(t, "of one", with(4), 4)
		wantNeeds(t, "of three", with(4, 2, 9), 2, 4, 9)
		wantNeeds(t, "of three alike", with(4, 4, 4), 4)
		wantNeeds(t, "of four", with(9, 2, 2, 1), 1, 2, 9)
	}
}

// P1: no numbers are too strange, no lists too long.
func TestNeedsOfWhatever(t *testing.T) {
	wantNeeds(t, "nothing", api.Rule{})
	for _, op := range append(upTo(api.QNum, api.QScanE+1), strange...) {
		wantNeeds(t, "nil lists", api.Rule{Op: op})
		wantNeeds(t, "empty lists", api.Rule{Op: op, A: []int{}, E: []api.Push{}})
	}
	var a, want []int
	for i := range 100000 {
		a, want = append(a, 99999-i), append(want, i)
	}
	wantNeeds(t, "many", api.Rule{Op: api.QPre, A: a}, want...)
	wantNeeds(t, "one many times", api.Rule{Op: api.QEach, A: make([]int, 1<<20), E: slices.Repeat([]api.Push{sca(1)}, 1<<20)}, 0, 1)
}

// 'What holds everywhere': what is answered is new memory, and what lies behind
// the lists is not read.
func TestNeedsOwnMemory(t *testing.T) {
	for _, op := range []int{api.QBin, api.QPre, api.QScanE} {
		for count := range 4 {
			a := []int{1, 2, 3, 77}
			steps := []api.Push{sca(4), sca(78)}
			r := api.Rule{Op: op, A: a[:count], E: steps[:1]}
			got := Needs(r)
			if slices.Contains(got, 77) || slices.Contains(got, 78) || slices.Contains(got, a[count]) {
				t.Errorf("Op %d with %d A: what lies behind was read: %v", op, count, got)
			}
			for i := range whole(got) {
				whole(got)[i] = -7
			}
			wantSame(t, "what was handed in", []any{a, steps}, []any{[]int{1, 2, 3, 77}, []api.Push{sca(4), sca(78)}})
		}
	}
}
