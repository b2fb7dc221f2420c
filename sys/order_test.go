package sys

import (
	"fmt"
	"slices"
	"testing"

	"loomwork/api"
)

// change is something that is put wrong in a system, and the fault that comes of
// it. Two changes of one thing cannot be made together.
type change struct {
	thing    string
	make     func(s *api.System)
	code, at int
}

// ordered has two rules with all that a rule can have, and variables that nobody
// makes: 7 a number, 8 an array.
func ordered() api.System {
	tree := func() []api.Push { return []api.Push{sca(0), arr(1, 0), bin(api.KAdd), num(1), at(1)} }
	return api.System{
		Vars: types("i i3 i b i i3 i i i3"),
		In:   []int{0, 1, 2, 3},
		Out:  []int{4, 5},
		Rules: []api.Rule{
			{Op: api.QFoldE, K: api.KAdd, Out: 4, N: 3, A: []int{0}, E: tree()},
			{Op: api.QScanE, K: api.KMul, Out: 5, A: []int{2}, E: tree()},
			{Op: api.QBin, K: api.KSub, Out: 6, A: []int{0, 2}},
		},
	}
}

// changesOfRule are those of a rule with a tree, but ErrNone.
func changesOfRule(i int) []change {
	thing := func(field string) string { return fmt.Sprint("rule ", i, " ", field) }
	longer := func(s *api.System) {
		s.Rules[i].E = append(s.Rules[i].E, slices.Repeat([]api.Push{un(api.KNeg)}, api.MaxTree)...)
	}
	return []change{
		{thing("Out"), func(s *api.System) { s.Rules[i].Out = -1 }, api.ErrRange, i},
		{thing("Out"), func(s *api.System) { s.Rules[i].Out = 3 }, api.ErrTwice, i},
		{thing("Op"), func(s *api.System) { s.Rules[i].Op = 17 }, api.ErrForm, i},
		{thing("A more"), func(s *api.System) { s.Rules[i].A = append(s.Rules[i].A, 0) }, api.ErrForm, i},
		{thing("E"), longer, api.ErrMany, i},
		{thing("A"), func(s *api.System) { s.Rules[i].A[0] = 500 }, api.ErrRange, i},
		{thing("E 0"), func(s *api.System) { s.Rules[i].E[0].V = -1 }, api.ErrRange, i},
		{thing("E 1"), func(s *api.System) { s.Rules[i].E[1].V = 500 }, api.ErrRange, i},
		{thing("E 4"), func(s *api.System) { s.Rules[i].E[4].V = least }, api.ErrRange, i},
		{thing("K"), func(s *api.System) { s.Rules[i].K = api.KLess }, api.ErrType, i},
		{thing("A"), func(s *api.System) { s.Rules[i].A[0] = 3 }, api.ErrType, i},
		{thing("E 0"), func(s *api.System) { s.Rules[i].E[0].V = 1 }, api.ErrType, i},
		{thing("E 3"), func(s *api.System) { s.Rules[i].E[3].K = 2 }, api.ErrType, i},
	}
}

// noneOfRule are the changes of a rule with a tree by which it uses what nobody
// makes.
func noneOfRule(i int) []change {
	thing := func(field string) string { return fmt.Sprint("rule ", i, " ", field) }
	return []change{
		{thing("A"), func(s *api.System) { s.Rules[i].A[0] = 7 }, api.ErrNone, i},
		{thing("E 0"), func(s *api.System) { s.Rules[i].E[0].V = 7 }, api.ErrNone, i},
		{thing("E 1"), func(s *api.System) { s.Rules[i].E[1].V = 8 }, api.ErrNone, i},
		{thing("E 4"), func(s *api.System) { s.Rules[i].E[4].V = 8 }, api.ErrNone, i},
	}
}

// changesOfSystem are those ahead of all rules.
func changesOfSystem() []change {
	return []change{
		{"Vars", func(s *api.System) { s.Vars = append(s.Vars, slices.Repeat(types("i"), api.MaxVars)...) }, api.ErrMany, -1},
		{"Elem 0", func(s *api.System) { s.Vars[0].Elem = 'x' }, api.ErrType, -2},
		{"N 0", func(s *api.System) { s.Vars[0].N = 301 }, api.ErrSize, -2},
		{"N 1", func(s *api.System) { s.Vars[1].N = -1 }, api.ErrSize, -3},
		{"Elem 2", func(s *api.System) { s.Vars[2].Elem = 0 }, api.ErrType, -4},
		{"N 2", func(s *api.System) { s.Vars[2].N = greatest }, api.ErrSize, -4},
		{"Elem 8", func(s *api.System) { s.Vars[8].Elem = 'I' }, api.ErrType, -10},
		{"In 0", func(s *api.System) { s.In[0] = -1 }, api.ErrRange, -1},
		{"In 2", func(s *api.System) { s.In[2] = 1 }, api.ErrTwice, -1},
		{"In 3", func(s *api.System) { s.In[3] = 500 }, api.ErrRange, -1},
		{"Out 0", func(s *api.System) { s.Out[0] = 500 }, api.ErrRange, -1},
	}
}

// changesInOrder are in the order in which the chapter lets things come.
func changesInOrder() []change {
	list := slices.Concat(changesOfSystem(), changesOfRule(0), changesOfRule(1))
	list = append(list,
		change{"rule 2 Out", func(s *api.System) { s.Rules[2].Out = 0 }, api.ErrTwice, 2},
		change{"rule 2 A more", func(s *api.System) { s.Rules[2].A = append(s.Rules[2].A, 0) }, api.ErrForm, 2},
		change{"rule 2 A", func(s *api.System) { s.Rules[2].A[0] = -3 }, api.ErrRange, 2},
		change{"rule 2 K", func(s *api.System) { s.Rules[2].K = 0 }, api.ErrType, 2})
	list = slices.Concat(list, noneOfRule(0), noneOfRule(1))
	return append(list,
		change{"rule 2 A", func(s *api.System) { s.Rules[2].A[1] = 7 }, api.ErrNone, 2},
		change{"Out 0", func(s *api.System) { s.Out[0] = 8 }, api.ErrNone, -1},
		change{"Out 1", func(s *api.System) { s.Out[1] = 7 }, api.ErrNone, -1})
}

// P7.1: each fault, and of any two that of the one that comes ahead.
func TestOrder(t *testing.T) {
	wantRight(t, "as it is", ordered())
	all := changesInOrder()
	pairs := 0
	for i, c := range all {
		s := ordered()
		c.make(&s)
		wantFault(t, c.thing, s, c.code, c.at)
		for _, d := range all[i+1:] {
			if c.thing == d.thing {
				continue
			}
			one, other := ordered(), ordered()
			c.make(&one)
			d.make(&one)
			d.make(&other)
			c.make(&other)
			wantFault(t, c.thing+" and "+d.thing, one, c.code, c.at)
			wantFault(t, d.thing+" and "+c.thing, other, c.code, c.at)
			pairs++
		}
	}
	if pairs < 900 {
		t.Errorf("%d pairs alone", pairs)
	}
}

// P7.1: a rule that makes what a later one makes takes it from that one: it is the
// later one's fault.
func TestOrderOfTwice(t *testing.T) {
	s := ordered()
	s.Rules[0].Out, s.Vars[5] = 5, s.Vars[4]
	wantFault(t, "the first makes the second one's", s, api.ErrTwice, 1)
	s = ordered()
	s.Rules[1].Out, s.Rules[2].Out = 8, 8
	wantFault(t, "the last makes the second one's", s, api.ErrTwice, 2)
}

// P7.1: behind all rules alone is it told what nobody makes; the rule's number is
// told, not the variable's.
func TestOrderOfNone(t *testing.T) {
	s := api.System{Vars: types("i i i i"), Out: []int{3}, Rules: []api.Rule{rule(api.QCopy, 0, 0, 1), rule(api.QCopy, 0, 1, 2), rule(api.QCopy, 0, 2, 0)}}
	wantFault(t, "all are made", s, api.ErrNone, -1)
	s.Rules[1].A[0] = 3
	wantFault(t, "the second rule", s, api.ErrNone, 1)
	s.Rules[2].A[0] = 3
	wantFault(t, "the second and the third", s, api.ErrNone, 1)
	s.Rules[2].K, s.Rules[2].Op = 0, api.QUn
	wantFault(t, "the third is of no type", s, api.ErrType, 2)
}
