package dead

import (
	"fmt"
	"slices"
	"testing"

	"loomwork/api"
)

// The chapter's example.
func TestExample(t *testing.T) {
	const y, z = 0, 1
	s := api.System{Vars: numbers(2), Out: []int{y}, Rules: []api.Rule{{Op: api.QNum, Out: y, N: 1}, copies(z, y)}}
	wantNeeded(t, "y = 1; z = y", s, 0)
	slices.Reverse(s.Rules)
	wantNeeded(t, "z = y; y = 1", s, 1)
	s.Out = []int{z}
	wantNeeded(t, "Out z", s, 0, 1)
	s.Out = []int{z, y}
	wantNeeded(t, "Out both", s, 0, 1)
}

// P10: a rule that makes one of Out is needed, and none beside.
func TestOut(t *testing.T) {
	wantNeeded(t, "nothing", api.System{})
	wantNeeded(t, "empty lists", api.System{Vars: []api.Var{}, In: []int{}, Out: []int{}, Rules: []api.Rule{}})
	wantNeeded(t, "no rules", api.System{Vars: types("i b3 b"), In: []int{2, 0}, Out: []int{0, 2, 0}})
	wantRead(t, "0: 1: 2: >")
	wantRead(t, "0: 1: 2: >0", 0)
	wantRead(t, "0: 1: 2: >1", 1)
	wantRead(t, "0: 1: 2: >2", 2)
	wantRead(t, "0: 1: 2: >2,0", 0, 2)
	wantRead(t, "0: 1: 2: >2,1,0", 0, 1, 2)
	wantRead(t, "2: 0: 1: >2", 0)
	wantRead(t, "2: 0: 1: >1,1", 2)
	wantRead(t, "2: 0: 1: >1,2,1,2,1", 0, 2)
}

// P10: what is In needs no rule, be it of Out or used.
func TestOutOfIn(t *testing.T) {
	wantRead(t, "0:1 2:0 >1")
	wantRead(t, "0:1 2:0 >1,1")
	wantRead(t, "0:1 2:0 >1,0", 0)
	wantRead(t, "0:1 2:0 >2,1", 0, 1)
	wantRead(t, "0:3,4 1:4 2:3 >0,4", 0)
	wantRead(t, "0:0,5 >5")
}

// P10: what a needed rule uses is made by a needed rule, be that ahead of it or
// behind it; what uses a needed rule's variable is not needed for that.
func TestUsed(t *testing.T) {
	wantRead(t, "0: 1:0 2:1 >1", 0, 1)
	wantRead(t, "2:1 1:0 0: >1", 1, 2)
	wantRead(t, "1:0 2:1 0: >1", 0, 2)
	wantRead(t, "0: 2:1 1:0 >1", 0, 2)
	wantRead(t, "0:1,2 1: 2: 3: >0", 0, 1, 2)
	wantRead(t, "0:2,4 1: 2: 3:0 4: >0", 0, 2, 4)
	wantRead(t, "0:1 1:2 2:3 3:4 4: >0", 0, 1, 2, 3, 4)
	wantRead(t, "0:1 1:2 2:3 3:4 4: >2", 2, 3, 4)
	wantRead(t, "4: 3:4 2:3 1:2 0:1 >0", 0, 1, 2, 3, 4)
	wantRead(t, "4: 3:4 2:3 1:2 0:1 >3", 0, 1)
	wantRead(t, "0:3 1:4 2: 3:1 4:2 5:0 >0", 0, 1, 2, 3, 4)
	wantRead(t, "0:3 1:4 2: 3:1 4:2 5:0 >3", 1, 2, 3, 4)
	wantRead(t, "0:1,2 1:3 2:3 3: 4:3 >0", 0, 1, 2, 3)
	wantRead(t, "0:1,1 1:2 2: >0", 0, 1, 2)
	wantRead(t, "0:2 1:3 2: 3: >0,1", 0, 1, 2, 3)
	wantRead(t, "0:2 1:3 2: 3: >1", 1, 3)
}

// P10: a QPre needs both: what it tells at first, and what it tells later.
func TestUsedByPre(t *testing.T) {
	wantRead(t, "0<1,2 1: 2: 3: >0", 0, 1, 2)
	wantRead(t, "3: 2: 1: 0<1,2 >0", 1, 2, 3)
	wantRead(t, "0<1,2 1: >0", 0, 1)
	wantRead(t, "0<1,2 2: >0", 0, 1)
	wantRead(t, "0<5,1 1<5,2 2<5,3 3:4 4: >0", 0, 1, 2, 3, 4)
	wantRead(t, "0<1,5 1<2,5 2<3,5 3:4 4: >0", 0, 1, 2, 3, 4)
	wantRead(t, "0<1,2 1: 2: 3: >1", 1)
	wantRead(t, "0<1,2 1: 2: 3: >2", 2)
	wantRead(t, "0<1,1 1: 2: >0", 0, 1)
	wantRead(t, "0<5,0 1: >0", 0)
	wantRead(t, "0<5,0 1: >1", 1)
	wantRead(t, "0:5,1 1<2,0 2: >0", 0, 1, 2)
	wantRead(t, "0:5,1 1<2,0 2: >1", 0, 1, 2)
}

// P10: rules that need one another are not needed for that.
func TestRounds(t *testing.T) {
	wantRead(t, "0:0 >")
	wantRead(t, "0:0 1: >1", 1)
	wantRead(t, "0:0 1: >0", 0)
	wantRead(t, "0:1 1:0 >")
	wantRead(t, "0:1 1:0 2: >2", 2)
	wantRead(t, "0:1 1:0 2: >1", 0, 1)
	wantRead(t, "0:1 1:0 2:0 >2", 0, 1, 2)
	wantRead(t, "0:1,2 1:0 2: >2", 2)
	wantRead(t, "0:1,2 1:0 2: >0", 0, 1, 2)
	wantRead(t, "0<9,1 1<9,0 2: >2", 2)
	wantRead(t, "0<9,1 1<9,0 2: >0", 0, 1)
	wantRead(t, "0:1 1:2 2:0 3:4 4:5 5:3 >4", 3, 4, 5)
	wantRead(t, "0:1 1:2 2:0 3:4 4:5 5:3 6: >6", 6)
	wantRead(t, "0:1 1:2 2:0,3 3:4 4:5 5:3 >0", 0, 1, 2, 3, 4, 5)
	wantRead(t, "0:1 1:2 2:0,3 3:4 4:5 5:3 >3", 3, 4, 5)
}

// besides is a system over everyType, which is In, and three variables more: of the
// first and the second type, which the rules make, and a number, made by a rule behind
// them that nothing needs.
func besides(first, second int, rules ...api.Rule) api.System {
	given := everyType()
	last := api.Rule{Op: api.QNum, Out: len(given) + 2}
	return api.System{
		Vars:  slices.Concat(given, []api.Var{given[first], given[second], {Elem: 'i'}}),
		In:    upTo(0, len(given)),
		Rules: append(slices.Clone(rules), last),
	}
}

// P10: rules of every Op are needed through each place of rules of every Op where
// these name a variable, ahead and behind; without that they are not.
func TestEveryPlace(t *testing.T) {
	const user, used = 6, 7
	ops, makers, steps := map[[2]int]int{}, map[int]int{}, map[[2]int]int{}
	for _, k := range everyKind() {
		r := k.making(user)
		for at, place := range placesOf(&r) {
			of := *place
			for _, other := range everyKind() {
				if other.makes != of {
					continue
				}
				what := fmt.Sprint("Op ", other.Op, " at place ", at, " of Op ", r.Op)
				wantLinked(t, what, user, used, k, at, other)
				makers[other.Op]++
			}
			if at < len(r.A) {
				ops[[2]int{r.Op, at}]++
			}
		}
		for _, p := range r.E {
			steps[[2]int{r.Op, p.Op}]++
		}
	}
	if len(makers) != api.QScanE || len(ops) != 1+1+2+3+2+2+1+3+3+1+2+2+1+1 || len(steps) != 3*api.PAt {
		t.Errorf("made by %v; places %v; steps %v", makers, ops, steps)
	}
}

// wantLinked holds a rule against one that makes what it names at that place.
func wantLinked(t *testing.T, what string, user, used int, k kind, at int, other kind) {
	t.Helper()
	r, maker := k.making(user), other.making(used)
	unlinked := besides(k.makes, other.makes, maker, r)
	unlinked.Out = []int{user}
	wantNeeded(t, what+": without it", unlinked, 1)
	linked := k.making(user)
	*placesOf(&linked)[at] = used
	s := besides(k.makes, other.makes, maker, linked)
	wantNeeded(t, what+": Out nothing", s)
	s.Out = []int{user}
	wantNeeded(t, what+": ahead", s, 0, 1)
	s.Out = []int{used}
	wantNeeded(t, what+": not the other way", s, 0)
	s.Rules[0], s.Rules[2] = s.Rules[2], s.Rules[0]
	s.Out = []int{user}
	wantNeeded(t, what+": behind", s, 1, 2)
}

// P10: steps in a rule that has none make nothing needed, and stay where they are.
func TestNoSteps(t *testing.T) {
	const user, used = 6, 7
	seen := map[int]int{}
	for _, k := range everyKind() {
		if k.Op >= api.QEach {
			continue
		}
		for _, other := range everyKind() {
			r := k.making(user)
			r.E = []api.Push{sca(used), arr(used, 1), at(used), {Op: api.PNum, V: used}}
			s := besides(k.makes, other.makes, r, other.making(used))
			s.Out = []int{user}
			wantNeeded(t, fmt.Sprint("Op ", k.Op), s, 0)
		}
		r := k.making(user)
		for _, v := range []int{-1, 9, 400, 1 << 32, least, greatest} {
			r.E = append(r.E, sca(v), arr(v, least), at(v), api.Push{Op: v, K: v, V: v, N: greatest})
		}
		r.E = slices.Repeat(r.E, 5)
		s := besides(k.makes, aNumber, r, api.Rule{Op: api.QNum, Out: used})
		s.Out = []int{user}
		wantNeeded(t, fmt.Sprint("Op ", k.Op, " with whatever steps"), s, 0)
		seen[k.Op]++
	}
	if len(seen) != api.QPre {
		t.Errorf("seen: %v", seen)
	}
}

// P10: steps that name no variable make nothing needed, whatever V they have.
func TestNamelessSteps(t *testing.T) {
	const user, used = 6, 7
	seen := map[int]int{}
	for _, k := range everyKind() {
		for i := range k.E {
			r := k.making(user)
			if slices.Contains(placesOf(&r), &r.E[i].V) {
				continue
			}
			for _, v := range []int{used, -1, 400, least, greatest} {
				r.E[i].V = v
				s := besides(k.makes, aNumber, r, api.Rule{Op: api.QNum, Out: used})
				s.Out = []int{user}
				wantNeeded(t, fmt.Sprint("Op ", k.Op, " step ", i), s, 0)
			}
			seen[r.E[i].Op]++
		}
	}
	if len(seen) != 5 {
		t.Errorf("seen: %v", seen)
	}
}

// P10: numbers of rules, variables and cells are not taken for one another.
func TestOtherFields(t *testing.T) {
	s := api.System{Vars: types("i i i i i3 i"), In: []int{4}, Out: []int{5}, Rules: []api.Rule{
		{Op: api.QNum, Out: 0, N: 1},
		{Op: api.QNum, Out: 1, N: 5},
		{Op: api.QSlice, Out: 2, N: 1, A: []int{4}},
		{Op: api.QNum, K: 1, Out: 3, N: 0},
		{Op: api.QFoldE, K: 1, Out: 5, N: 1, A: []int{3}, E: []api.Push{{Op: api.PNum, N: 2}, {Op: api.PArr, V: 4, N: 2}, bin(api.KMul)}},
	}}
	s.Vars[2].N = 2
	wantNeeded(t, "N and K", s, 3, 4)
	s.Rules[3].N, s.Rules[3].K, s.Rules[4].N = least, greatest, 3
	s.Rules[4].E[1].N = 0
	wantNeeded(t, "others of them", s, 3, 4)
}
