package sys

import (
	"fmt"
	"slices"
	"testing"

	"loomwork/api"
)

// numbers is a system of so many variables, each made by a rule of its own.
func numbers(count int) api.System {
	s := api.System{Vars: slices.Repeat(types("i"), count)}
	for i := range count {
		s.Rules = append(s.Rules, rule(api.QNum, 0, i))
	}
	return s
}

// outside are numbers that no variable has where there are so many.
func outside(count int) []int {
	return []int{-1, -2, -count, count, count + 1, 1 << 32, 1<<32 + 1, -1 << 32, greatest, least, least + 1}
}

// P7.1: what has nothing is a system.
func TestNothing(t *testing.T) {
	wantRight(t, "nil lists", api.System{})
	wantRight(t, "empty lists", api.System{Vars: []api.Var{}, In: []int{}, Out: []int{}, Rules: []api.Rule{}})
	wantRight(t, "a variable that nobody makes", api.System{Vars: types("i")})
}

// P7.1: ErrMany at -1: as many as there may be, and one more.
func TestMany(t *testing.T) {
	most := numbers(api.MaxVars)
	wantRight(t, "variables and rules", most)
	wantRight(t, "In", api.System{Vars: most.Vars, In: upTo(0, api.MaxVars)})
	wantRight(t, "Out", api.System{Vars: types("i"), In: []int{0}, Out: make([]int, api.MaxVars)})
	s := api.System{Vars: slices.Repeat(types("i"), api.MaxVars+1)}
	wantFault(t, "variables", s, api.ErrMany, -1)
	s = api.System{Vars: most.Vars, In: append(upTo(0, api.MaxVars), 0)}
	wantFault(t, "In", s, api.ErrMany, -1)
	s = api.System{Vars: types("i"), In: []int{0}, Out: make([]int, api.MaxVars+1)}
	wantFault(t, "Out", s, api.ErrMany, -1)
	s = api.System{Vars: most.Vars, Rules: append(slices.Clone(most.Rules), rule(api.QNum, 0, 0))}
	wantFault(t, "rules", s, api.ErrMany, -1)
	wantFault(t, "far more", numbers(1<<16), api.ErrMany, -1)
}

// P7.1: ErrType and ErrSize of a variable, at -2 less its number.
func TestVariables(t *testing.T) {
	for elem := range 256 {
		code, at := api.ErrType, -2
		if elem == 'i' || elem == 'b' {
			code, at = 0, 0
		}
		wantFault(t, fmt.Sprint("Elem ", elem), api.System{Vars: []api.Var{{Elem: byte(elem)}}}, code, at)
		wantFault(t, fmt.Sprint("Elem of an array ", elem), api.System{Vars: []api.Var{{Elem: byte(elem), N: 300}}}, code, at)
	}
	for _, elem := range []byte("ib") {
		for _, n := range []int{0, 1, 2, 299, 300} {
			wantRight(t, fmt.Sprint("N ", n), api.System{Vars: []api.Var{{Elem: elem, N: n}}})
		}
		for _, n := range []int{-1, -300, 301, 302, 1 << 32, 1<<32 + 5, greatest, least} {
			wantFault(t, fmt.Sprint("N ", n), api.System{Vars: []api.Var{{Elem: elem, N: n}}}, api.ErrSize, -2)
		}
	}
	for _, i := range []int{0, 1, 2, 17, 398, 399} {
		s := numbers(api.MaxVars)
		s.Vars[i].Elem = 'x'
		wantFault(t, "Elem", s, api.ErrType, -2-i)
		s.Vars[i] = api.Var{Elem: 'b', N: 301}
		wantFault(t, "N", s, api.ErrSize, -2-i)
	}
}

// P7.1: In is of variables, each once.
func TestIn(t *testing.T) {
	vars := types("i b i3 b3")
	for _, in := range [][]int{nil, {0}, {3}, {3, 0, 2, 1}, {1, 2}} {
		wantRight(t, fmt.Sprint(in), api.System{Vars: vars, In: in})
	}
	for _, v := range outside(4) {
		wantFault(t, "the first", api.System{Vars: vars, In: []int{v}}, api.ErrRange, -1)
		wantFault(t, "the last", api.System{Vars: vars, In: []int{0, 3, v}}, api.ErrRange, -1)
		wantFault(t, "of none", api.System{In: []int{v}}, api.ErrRange, -1)
	}
	wantFault(t, "of none", api.System{In: []int{0}}, api.ErrRange, -1)
	for _, in := range [][]int{{0, 0}, {3, 1, 3}, {2, 0, 1, 1}, {0, 1, 2, 3, 0}} {
		wantFault(t, fmt.Sprint(in), api.System{Vars: vars, In: in}, api.ErrTwice, -1)
	}
	wantFault(t, "twice ahead of none", api.System{Vars: vars, In: []int{2, 2, 9}}, api.ErrTwice, -1)
	wantFault(t, "none ahead of twice", api.System{Vars: vars, In: []int{2, 9, 2}}, api.ErrRange, -1)
	wantFault(t, "none, twice", api.System{Vars: vars, In: []int{9, 9}}, api.ErrRange, -1)
}

// P7.1: Out is of variables, as often as it likes.
func TestOut(t *testing.T) {
	s := api.System{Vars: types("i b i3"), In: []int{0, 1}, Rules: []api.Rule{rule(api.QFill, 0, 2, 0)}}
	for _, out := range [][]int{nil, {0}, {1}, {2}, {2, 1, 0}, {2, 2, 0, 2, 0}} {
		s.Out = out
		wantRight(t, fmt.Sprint(out), s)
	}
	for _, v := range outside(3) {
		for _, out := range [][]int{{v}, {0, 2, v}, {v, 1}, {v, v}} {
			s.Out = out
			wantFault(t, fmt.Sprint(out), s, api.ErrRange, -1)
		}
	}
}

// P7.1: Out of a rule is a variable, not In, and no rule above makes it.
func TestOutOfRule(t *testing.T) {
	base := func() api.System {
		return api.System{Vars: types("i i i i"), In: []int{0}, Rules: []api.Rule{rule(api.QNum, 0, 1), rule(api.QNum, 0, 3), rule(api.QNum, 0, 2)}}
	}
	wantRight(t, "base", base())
	for i := range 3 {
		for _, v := range outside(4) {
			s := base()
			s.Rules[i].Out = v
			wantFault(t, fmt.Sprint("rule ", i, " makes ", v), s, api.ErrRange, i)
		}
		s := base()
		s.Rules[i].Out = 0
		wantFault(t, fmt.Sprint("rule ", i, " makes In"), s, api.ErrTwice, i)
		for j := range i {
			s = base()
			s.Rules[i].Out = s.Rules[j].Out
			wantFault(t, fmt.Sprint("rule ", i, " makes what ", j, " makes"), s, api.ErrTwice, i)
		}
	}
}

// P7.1: ErrForm: no Op, or not as many A as it must have.
func TestForm(t *testing.T) {
	for _, op := range []int{0, -1, -16, 17, 18, 255, 256, 257, 1 << 32, 1<<32 + 1, greatest, least, least + 1} {
		for count := range 5 {
			s := api.System{Vars: types("i i"), In: []int{0}, Rules: []api.Rule{{Op: op, Out: 1, A: make([]int, count)}}}
			wantFault(t, fmt.Sprint("Op ", op), s, api.ErrForm, 0)
			s.Rules[0].E = []api.Push{num(1)}
			wantFault(t, fmt.Sprint("Op ", op, " with steps"), s, api.ErrForm, 0)
		}
	}
	for op := api.QNum; op <= api.QScanE; op++ {
		for _, count := range []int{0, 1, 2, 3, 4, 5, 1 << 20} {
			s := api.System{Vars: types("i b b3"), In: []int{0, 1}, Rules: []api.Rule{{Op: op, K: api.KAdd, Out: 2, A: make([]int, count)}}}
			if got := Check(s); (got.Code == api.ErrForm) != (count != counts[op]) {
				t.Errorf("Op %d with %d A: %v", op, count, got)
			}
		}
	}
}

// rightRules has a right rule of each Op, over the variables i b i3 b3, which are
// In, and the type of what it makes.
func rightRules() []struct {
	api.Rule
	out string
} {
	tree := []api.Push{num(4)}
	return []struct {
		api.Rule
		out string
	}{
		{api.Rule{Op: api.QNum, N: 5}, "i"},
		{api.Rule{Op: api.QCopy, A: []int{2}}, "i3"},
		{api.Rule{Op: api.QUn, K: api.KNeg, A: []int{2}}, "i3"},
		{api.Rule{Op: api.QBin, K: api.KLess, A: []int{2, 2}}, "b3"},
		{api.Rule{Op: api.QIf, A: []int{1, 3, 3}}, "b3"},
		{api.Rule{Op: api.QFold, K: api.KAnd, A: []int{1, 3}}, "b"},
		{api.Rule{Op: api.QScan, K: api.KMin, A: []int{0, 2}}, "i3"},
		{api.Rule{Op: api.QFill, A: []int{1}}, "b7"},
		{api.Rule{Op: api.QIndex, A: []int{3, 0, 1}}, "b"},
		{api.Rule{Op: api.QWith, A: []int{2, 0, 0}}, "i3"},
		{api.Rule{Op: api.QSlice, N: 1, A: []int{2}}, "i2"},
		{api.Rule{Op: api.QCat, A: []int{2, 2}}, "i6"},
		{api.Rule{Op: api.QPre, A: []int{0, 0}}, "i"},
		{api.Rule{Op: api.QEach, E: tree}, "i9"},
		{api.Rule{Op: api.QFoldE, K: api.KAdd, N: 3, A: []int{0}, E: tree}, "i"},
		{api.Rule{Op: api.QScanE, K: api.KAdd, A: []int{0}, E: tree}, "i8"},
	}
}

// overFour puts the rule behind the variables i b i3 b3, which are In, and one
// that nobody makes; it makes the one behind these.
func overFour(r api.Rule, out string) api.System {
	r.Out = 5
	return api.System{Vars: types("i b i3 b3 i " + out), In: upTo(0, 4), Out: []int{5}, Rules: []api.Rule{r}}
}

// P7.1: E has MaxTree steps, and not one more, of rules that have it.
func TestManySteps(t *testing.T) {
	for _, r := range rightRules()[api.QEach-1:] {
		for _, count := range []int{1, 3, 23, 24, 25, 26, 27, 1 << 20} {
			long := slices.Repeat([]api.Push{un(api.KNeg)}, count)
			long[0] = num(1)
			r.E = long
			if count > api.MaxTree {
				wantFault(t, fmt.Sprint("Op ", r.Op, " with ", count), overFour(r.Rule, r.out), api.ErrMany, 0)
			} else {
				wantRight(t, fmt.Sprint("Op ", r.Op, " with ", count), overFour(r.Rule, r.out))
			}
		}
	}
}

// P7.1: each A is a variable, and V of the steps that have one.
func TestRangeOfRule(t *testing.T) {
	for i, r := range rightRules() {
		if r.Op != i+1 {
			t.Fatalf("the rule %d is of Op %d", i, r.Op)
		}
		wantRight(t, fmt.Sprint("Op ", r.Op), overFour(r.Rule, r.out))
		for j := range r.A {
			for _, v := range outside(6) {
				other := r.Rule
				other.A = slices.Clone(r.A)
				other.A[j] = v
				wantFault(t, fmt.Sprint("Op ", r.Op, ": A ", j, " is ", v), overFour(other, r.out), api.ErrRange, 0)
			}
		}
	}
	for _, r := range rightRules()[api.QEach-1:] {
		for _, v := range outside(6) {
			for _, step := range []api.Push{sca(v), arr(v, 0), at(v)} {
				r.E = []api.Push{step}
				wantFault(t, fmt.Sprint("Op ", r.Op, ": V is ", v), overFour(r.Rule, r.out), api.ErrRange, 0)
				r.E = []api.Push{num(1), num(2), step}
				wantFault(t, fmt.Sprint("Op ", r.Op, ": the third V is ", v), overFour(r.Rule, r.out), api.ErrRange, 0)
			}
			for _, step := range []api.Push{num(1), idx(1)} {
				step.V = v
				r.E = []api.Push{step, {Op: api.PUn, K: api.KNeg, V: v}, {Op: api.PNum, K: 1, V: v}, step, step,
					{Op: api.PBin, K: api.KAdd, V: v}, step, {Op: api.PSel, V: v}, {Op: api.PBin, K: api.KAdd, V: v}}
				wantRight(t, fmt.Sprint("Op ", r.Op, ": V of steps that have none is ", v), overFour(r.Rule, r.out))
			}
		}
	}
}

// P7.1: ErrNone at the first rule that uses what is neither In nor made.
func TestNoneOfRule(t *testing.T) {
	for _, r := range rightRules() {
		for j, v := range r.A {
			s := overFour(r.Rule, r.out)
			s.Rules[0].A = slices.Clone(r.A)
			s.Rules[0].A[j] = 4
			s.Vars[4] = s.Vars[v]
			s.Rules = slices.Insert(s.Rules, 0, rule(api.QNum, 0, 6), rule(api.QCopy, 0, 7, 6))
			s.Vars = append(s.Vars, types("i i")...)
			wantFault(t, fmt.Sprint("Op ", r.Op, ": A ", j), s, api.ErrNone, 2)
			s.In = append(s.In, 4)
			wantRight(t, fmt.Sprint("Op ", r.Op, ": A ", j, " is In"), s)
			s.In = s.In[:4]
			s.Rules = append(s.Rules, rule(api.QCopy, 0, 4, v))
			wantRight(t, fmt.Sprint("Op ", r.Op, ": A ", j, " is made behind it"), s)
		}
	}
	for _, r := range rightRules()[api.QEach-1:] {
		for _, tree := range [][]api.Push{{sca(4)}, {num(1), sca(4), bin(api.KAdd)}, {arr(4, 0)}, {num(1), num(2), at(4)}} {
			r.E = tree
			s := overFour(r.Rule, r.out)
			if tree[len(tree)-1].Op == api.PAt || tree[0].Op == api.PArr {
				s.Vars[4].N = 300
			}
			wantFault(t, fmt.Sprint("Op ", r.Op, ": ", tree), s, api.ErrNone, 0)
			s.In = append(s.In, 4)
			wantRight(t, fmt.Sprint("Op ", r.Op, ": ", tree, " is In"), s)
		}
	}
}

// P7.1: what a rule makes it may use, and rules may go round: that is no matter
// of a system's form.
func TestRoundIsSystem(t *testing.T) {
	wantRight(t, "of itself", api.System{Vars: types("i"), Out: []int{0}, Rules: []api.Rule{rule(api.QCopy, 0, 0, 0)}})
	wantRight(t, "of itself by a step", api.System{Vars: types("i3"), Rules: []api.Rule{each(0, arr(0, 0))}})
	wantRight(t, "two", api.System{Vars: types("i i"), Rules: []api.Rule{rule(api.QCopy, 0, 0, 1), rule(api.QCopy, 0, 1, 0)}})
}

// P7.1: ErrNone at -1: an Out that is neither In nor made.
func TestNoneOfOut(t *testing.T) {
	s := api.System{Vars: types("i i i"), In: []int{0}, Rules: []api.Rule{rule(api.QCopy, 0, 2, 0)}}
	for _, out := range [][]int{{1}, {0, 2, 1}, {1, 1}} {
		s.Out = out
		wantFault(t, fmt.Sprint(out), s, api.ErrNone, -1)
	}
	s.Out = []int{2, 0}
	wantRight(t, "both", s)
	wantFault(t, "no rule", api.System{Vars: types("i"), Out: []int{0}}, api.ErrNone, -1)
}

// P7.1: fields that a rule does not have are not looked at, whatever is in them.
func TestOtherFields(t *testing.T) {
	wrongSteps := [][]api.Push{
		{sca(-1)}, {sca(99)}, {arr(greatest, 0)}, {at(least)}, {sca(4)}, {arr(4, 0), num(1)}, {un(api.KAdd)}, {{Op: 99}}, slices.Repeat([]api.Push{sca(0)}, 25), make([]api.Push, 1<<16),
	}
	for _, r := range rightRules() {
		for _, n := range []int64{-1, 0, 1, 2, 300, 301, greatest, least} {
			if r.Op == api.QNum || r.Op == api.QSlice || r.Op == api.QFoldE {
				break // these have an N
			}
			other := r.Rule
			other.N = n
			wantRight(t, fmt.Sprint("Op ", r.Op, ": N ", n), overFour(other, r.out))
		}
		for _, k := range []int{-1, 0, 1, api.KLess, api.KAnd, api.KNot, 15, 99, greatest, least} {
			if r.K != 0 {
				break // these have a K
			}
			other := r.Rule
			other.K = k
			wantRight(t, fmt.Sprint("Op ", r.Op, ": K ", k), overFour(other, r.out))
		}
		for _, steps := range wrongSteps {
			if r.Op >= api.QEach {
				break // these have an E
			}
			other := r.Rule
			other.E = steps
			wantRight(t, fmt.Sprint("Op ", r.Op, ": E ", len(steps)), overFour(other, r.out))
		}
	}
}

// P7.1: fields that a step does not have are not looked at, either.
func TestOtherFieldsOfSteps(t *testing.T) {
	for _, x := range []int{-1, 0, 1, 2, 5, 99, greatest, least} {
		n := int64(x)
		wantRight(t, "PNum", overFour(each(0, api.Push{Op: api.PNum, V: x, N: n}), "i"))
		wantRight(t, "PSca", overFour(each(0, api.Push{Op: api.PSca, K: x, V: 0, N: n}), "i"))
		wantRight(t, "PArr", overFour(each(0, api.Push{Op: api.PArr, K: x, V: 2}), "i3"))
		wantRight(t, "PIdx", overFour(each(0, api.Push{Op: api.PIdx, K: x, V: x}), "i3"))
		wantRight(t, "PUn", overFour(each(0, sca(0), api.Push{Op: api.PUn, K: api.KNeg, V: x, N: n}), "i3"))
		wantRight(t, "PBin", overFour(each(0, sca(0), sca(0), api.Push{Op: api.PBin, K: api.KLess, V: x, N: n}), "b3"))
		wantRight(t, "PSel", overFour(each(0, sca(1), sca(0), sca(0), api.Push{Op: api.PSel, K: x, V: x, N: n}), "i3"))
		wantRight(t, "PAt", overFour(each(0, sca(0), sca(1), api.Push{Op: api.PAt, K: x, V: 3, N: n}), "b9"))
	}
}
