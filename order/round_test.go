package order

import (
	"fmt"
	"slices"
	"testing"

	"loomwork/api"
)

// P8.3: rounds of one rule, of two and of more, from the first one on.
func TestRounds(t *testing.T) {
	wantRound(t, "one", read("0:0"), 0, 0)
	wantRound(t, "one by QPre", read("0<0,1"), 0, 0)
	wantRound(t, "two", read("0:1 1:0"), 0, 0, 1)
	wantRound(t, "two, the other way round", read("1:0 0:1"), 0, 0, 1)
	wantRound(t, "three", read("0:1 1:2 2:0"), 0, 0, 1, 2)
	wantRound(t, "three, the other way", read("0:2 1:0 2:1"), 0, 0, 2, 1)
	wantRound(t, "five", read("0:3 1:0 2:4 3:2 4:1"), 0, 0, 3, 2, 4, 1)
	wantRound(t, "numbers of rules, not of variables", read("5: 2:4 4:3 3:2"), 1, 1, 2, 3)
	wantRound(t, "numbers in what was handed in, not among those left", read("0: 1: 2:4 3: 4:2"), 2, 2, 4)
}

// P8.3: rules that lead into a round are not in it; it begins with the one that
// they lead to.
func TestIntoRounds(t *testing.T) {
	wantRound(t, "one leads in", read("0:1 1:2 2:1"), 0, 1, 2)
	wantRound(t, "two lead in", read("0:1 1:2 2:3 3:2"), 0, 2, 3)
	wantRound(t, "in at its last one", read("0:3 1:2 2:3 3:1"), 0, 3, 1, 2)
	wantRound(t, "in at its middle", read("0:2 1:2 2:3 3:1"), 0, 2, 3, 1)
	wantRound(t, "into a rule of itself", read("0:1 1:1"), 0, 1)
	wantRound(t, "the round is ahead of what it keeps", read("0:1 1:0 2:1"), 0, 0, 1)
}

// P8.3: of several rounds that to which the first one that is left leads.
func TestSeveralRounds(t *testing.T) {
	wantRound(t, "side by side", read("0:2 1:3 2:0 3:1"), 0, 0, 2)
	wantRound(t, "behind one another", read("0:1 1:0 2:3 3:2"), 0, 0, 1)
	wantRound(t, "the first one leads to the later one", read("0:3 1:2 2:1 3:4 4:3"), 0, 3, 4)
	wantRound(t, "a round that needs another", read("0:1,2 1:0 2:2"), 0, 0, 1)
	wantRound(t, "a round that needs another first", read("0:1,2 2:0 1:1"), 0, 2)
}

// P8.3: of what a rule needs, the first, by the variables' numbers, that neither
// is In nor was made by a rule that can be sorted.
func TestFirstNeed(t *testing.T) {
	wantRound(t, "the least one", read("0:2,1 1:0 2:0"), 0, 0, 1)
	wantRound(t, "the least one, not the first rule's", read("0:2,1 2:0 1:0"), 0, 0, 2)
	wantRound(t, "itself, if that is the least", read("0:2,1,0 1:0 2:0"), 0, 0)
	wantRound(t, "not what is In", read("4:0,3,2 2:4 3:4"), 0, 0, 1)
	wantRound(t, "not what was made", read("0: 1:0 4:0,1,3,2 2:4 3:4"), 2, 2, 3)
	wantRound(t, "not what is made behind", read("4:0,1,3 3:4 0: 1:"), 0, 0, 1)
	wantRound(t, "not what QPre keeps", read("4<3,0 0:4 3:4"), 0, 0, 2)
	s := api.System{Vars: numbers(3), Rules: []api.Rule{
		{Op: api.QBin, K: api.KAdd, Out: 0, A: []int{2, 1}},
		{Op: api.QCopy, Out: 2, A: []int{0}},
		{Op: api.QCopy, Out: 1, A: []int{0}},
	}}
	wantRound(t, "the least of A, not A[0]", s, 0, 0, 2)
}

// P8.3: a QPre breaks a round by its A[1], not by its A[0].
func TestPreBreaksRound(t *testing.T) {
	wantSorted(t, "of itself", read("0<1,0"), 0)
	wantSorted(t, "of two", read("0:1 1<2,0"), 1, 0)
	wantSorted(t, "of three", read("0:1 1:2 2<3,0"), 2, 1, 0)
	wantSorted(t, "both keep one another", read("0<2,1 1<2,0"), 0, 1)
	wantRound(t, "A[0] does not", read("0:1 1<0,2"), 0, 0, 1)
	wantRound(t, "of both A", read("0:1 1<0,0"), 0, 0, 1)
	wantRound(t, "one of two rounds", read("0:1,2 1<3,0 2:0"), 0, 0, 2)
	wantRound(t, "one of two rounds, the first", read("0:2 1<3,0 2:1,0"), 0, 0, 2)
}

// P8: a link from each place of each kind of rule: the rule comes behind what that
// place names, and there is a round, if that needs the rule in turn; but for A[1]
// of QPre.
func TestEveryPlace(t *testing.T) {
	seen := 0
	for _, r := range everyKind() {
		for at, place := range placesOf(&r) {
			of := *place
			*place = 4
			what := fmt.Sprint("Op ", r.Op, ", place ", at)
			later := api.Rule{Op: api.QCopy, Out: 4, A: []int{of}}
			s := api.System{Vars: types("i b i3 b3"), In: upTo(0, 4), Rules: []api.Rule{r, later}}
			s.Vars = append(s.Vars, s.Vars[of], outOf(r))
			back := api.System{Vars: s.Vars, In: s.In, Rules: []api.Rule{r, linkTo(s.Vars[of], s.Vars[5])}}
			if r.Op == api.QPre && at == 1 {
				wantSorted(t, what, s, 0, 1)
				wantSorted(t, what+" and back", back, 0, 1)
			} else {
				wantSorted(t, what, s, 1, 0)
				wantRound(t, what+" and back", back, 0, 0, 1)
			}
			*place = of
			seen++
		}
	}
	if seen != 34 {
		t.Errorf("%d places", seen)
	}
}

// everyKind has a right rule of each Op over the variables i b i3 b3; it makes 5.
func everyKind() []api.Rule {
	tree := []api.Push{sca(0), arr(2, 0), {Op: api.PBin, K: api.KMul}, num(4), at(2)}
	list := []api.Rule{
		{Op: api.QNum, N: 5},
		{Op: api.QCopy, A: []int{2}},
		{Op: api.QUn, K: api.KNeg, A: []int{2}},
		{Op: api.QBin, K: api.KLess, A: []int{2, 2}},
		{Op: api.QIf, A: []int{1, 3, 3}},
		{Op: api.QFold, K: api.KAnd, A: []int{1, 3}},
		{Op: api.QScan, K: api.KMin, A: []int{0, 2}},
		{Op: api.QFill, A: []int{1}},
		{Op: api.QIndex, A: []int{3, 0, 1}},
		{Op: api.QWith, A: []int{2, 0, 0}},
		{Op: api.QSlice, N: 1, A: []int{2}},
		{Op: api.QCat, A: []int{2, 2}},
		{Op: api.QPre, A: []int{0, 0}},
		{Op: api.QEach, E: tree},
		{Op: api.QFoldE, K: api.KAdd, N: 3, A: []int{0}, E: tree},
		{Op: api.QScanE, K: api.KAdd, A: []int{0}, E: tree},
	}
	for i := range list {
		list[i] = Own(list[i])
		list[i].Out = 5
	}
	return list
}

// outOf is the type of what a rule of everyKind makes.
func outOf(r api.Rule) api.Var {
	return types("i i i3 i3 b3 b3 b i3 b7 b i3 i2 i6 i i3 i i3")[r.Op]
}

// placesOf are the places of a rule where it names a variable.
func placesOf(r *api.Rule) []*int {
	var list []*int
	for i := range r.A {
		list = append(list, &r.A[i])
	}
	for i := range r.E {
		if slices.Contains([]int{api.PSca, api.PArr, api.PAt}, r.E[i].Op) {
			list = append(list, &r.E[i].V)
		}
	}
	return list
}

// linkTo makes the variable 4 of the variable 5, whatever their types are.
func linkTo(made, of api.Var) api.Rule {
	value := map[byte][]api.Push{'i': {num(7)}, 'b': {{Op: api.PNum, K: 1, N: 1}}}
	steps := []api.Push{sca(5)}
	if of.N > 0 {
		steps = slices.Concat([]api.Push{num(0)}, value[of.Elem], []api.Push{at(5)})
	}
	if of.Elem != 'b' {
		steps = append(steps, num(0), api.Push{Op: api.PBin, K: api.KLess})
	}
	steps = slices.Concat(steps, value[made.Elem], value[made.Elem], []api.Push{{Op: api.PSel}})
	return api.Rule{Op: api.QEach, Out: 4, E: steps}
}
