package live

import (
	"fmt"
	"slices"
	"testing"

	"loomwork/api"
)

// The chapter's example.
func TestExample(t *testing.T) {
	const a, b, c, one = 0, 1, 2, 3
	s := api.System{Vars: numbers(3), In: []int{a}, Out: []int{c}, Rules: []api.Rule{
		each(b, sca(a), num(1), bin(api.KAdd)),
		copies(c, b),
	}}
	wantLive(t, "b = a + 1; c = b", s, readSpans("-1~0 0~1 1~2"), 2)
	s.Vars, s.In = numbers(4), []int{a, one}
	s.Rules[0] = rule(api.QBin, api.KAdd, b, a, one)
	wantLive(t, "1 is In, too", s, readSpans("-1~0 0~1 1~2 -1~0"), 3)
}

// P12.1: what is In begins at -1, and ends with the last rule that needs it.
func TestGiven(t *testing.T) {
	wantRead(t, "0: >0 1:0 -3", "0~2 1~1 -1~-1 0~-1", 2)
	wantRead(t, "0:3 1: 2:", "0~0 1~1 2~2 -1~0", 2)
	wantRead(t, "0: 1:3 2:", "0~0 1~1 2~2 -1~1", 2)
	wantRead(t, "0: 1: 2:3", "0~0 1~1 2~2 -1~2", 2)
	wantRead(t, "0:3 1:3 2:", "0~0 1~1 2~2 -1~1", 2)
	wantRead(t, "0:3 1: 2:3", "0~0 1~1 2~2 -1~2", 2)
	wantRead(t, "0:3 1:3 2:3", "0~0 1~1 2~2 -1~2", 2)
	wantRead(t, "0:3,3 1: 2:", "0~0 1~1 2~2 -1~0", 2)
	wantRead(t, "0: 1: 2: -4", "0~0 1~1 2~2 -1~-1 0~-1", 1)
	wantRead(t, "0:4 1:3 2:", "0~0 1~1 2~2 -1~1 -1~0", 3)
}

// P12.1: what is made begins with the rule that makes it, and ends with the last rule
// that needs it.
func TestMade(t *testing.T) {
	wantRead(t, "0: 1: 2:", "0~0 1~1 2~2", 1)
	wantRead(t, "0: 1:0 2:", "0~1 1~1 2~2", 2)
	wantRead(t, "0: 1: 2:0", "0~2 1~1 2~2", 2)
	wantRead(t, "0: 1:0 2:0", "0~2 1~1 2~2", 2)
	wantRead(t, "0: 1: 2: 3:1,0", "0~3 1~3 2~2 3~3", 3)
	wantRead(t, "0: 1:0 2:1 3:2", "0~1 1~2 2~3 3~3", 2)
	wantRead(t, "0: 1:0 2:1,0 3:2,1,0", "0~3 1~3 2~3 3~3", 4)
	wantRead(t, "3: 1:3 2:1 0:2", "3~3 1~2 2~3 0~1", 2)
	wantRead(t, "2: 0: 1:2,2,2 3:0", "1~3 2~2 0~2 3~3", 3)
}

// P12.1: what is Out's is needed behind all rules, be it In, or made, once or twice,
// and whatever needs it ahead.
func TestTold(t *testing.T) {
	wantRead(t, "0: 1: 2: >0", "0~3 1~1 2~2", 2)
	wantRead(t, "0: 1: 2: >1", "0~0 1~3 2~2", 2)
	wantRead(t, "0: 1: 2: >2", "0~0 1~1 2~3", 1)
	wantRead(t, "0: 1: 2: >0,0", "0~3 1~1 2~2", 2)
	wantRead(t, "0: 1: 2: >2,0,2", "0~3 1~1 2~3", 2)
	wantRead(t, "0: 1:0 2: >0", "0~3 1~1 2~2", 2)
	wantRead(t, "0: 1: 2:0 >0", "0~3 1~1 2~2", 2)
	wantRead(t, "0: 1: 2: >3", "0~0 1~1 2~2 -1~3", 2)
	wantRead(t, "0: 1: 2: >3,3,3", "0~0 1~1 2~2 -1~3", 2)
	wantRead(t, "0:3 1: 2: >3", "0~0 1~1 2~2 -1~3", 2)
	wantRead(t, "0: 1: 2:3 >3,0", "0~3 1~1 2~2 -1~3", 3)
	wantRead(t, "0: 1: 2: >2,1,0,3", "0~3 1~3 2~3 -1~3", 4)
}

// P12.1: A[1] of a QPre is needed behind all rules, wherever the QPre stands; A[0] as
// of any other rule.
func TestKeptByPre(t *testing.T) {
	wantRead(t, "0: 1:0 2<3,0", "0~3 1~1 2~2 -1~2", 3)
	wantRead(t, "0: 2<3,0 1:0", "0~3 2~2 1~1 -1~1", 3)
	wantRead(t, "2<3,0 0: 1:0", "1~3 2~2 0~0 -1~0", 2)
	wantRead(t, "2<3,0 1: 0:", "2~3 1~1 0~0 -1~0", 2)
	wantRead(t, "2<3,2 1: 0:", "2~2 1~1 0~3 -1~0", 2)
	wantRead(t, "1: 0: 2<3,2", "1~1 0~0 2~3 -1~2", 2)
	wantRead(t, "0: 1<0,2 3:", "0~1 1~1 -1~3 2~2", 3)
	wantRead(t, "0: 1<0,0 3: -2", "0~3 1~1 0~-1 2~2", 2)
	wantRead(t, "1: 0<1,2 3:1 -4", "1~1 0~2 -1~3 2~2 0~-1", 3)
	wantRead(t, "0<3,3 1: 2:", "0~0 1~1 2~2 -1~3", 2)
	wantRead(t, "0<3,1 1<3,2 2<3,0", "0~3 1~3 2~3 -1~2", 4)
	wantRead(t, "0<3,1 1<4,0 >1 -2", "0~2 1~2 0~-1 -1~0 -1~1", 3)
}

// P12.1: what stands at the places of the two A of rules that are no QPre is not kept.
func TestKeptByNoOther(t *testing.T) {
	for _, r := range []api.Rule{
		rule(api.QBin, api.KAdd, 2, 0, 1),
		rule(api.QCat, 0, 3, 4, 5),
		rule(api.QFold, api.KAdd, 2, 0, 4),
		rule(api.QScan, api.KAdd, 6, 0, 4),
		rule(api.QIf, 0, 2, 7, 0, 1),
		rule(api.QWith, 0, 6, 4, 0, 1),
		rule(api.QIndex, 0, 2, 4, 0, 1),
	} {
		s := api.System{Vars: types("i i i i5 i2 i3 i2 b i"), In: []int{0, 1, 4, 5, 7}}
		s.Rules = []api.Rule{r, number(8, 1)}
		want := readSpans("-1~-1 -1~-1 0~-1 0~-1 -1~-1 -1~-1 0~-1 -1~-1 1~1")
		for _, v := range r.A {
			want[v].To = 0
		}
		want[r.Out] = api.Span{}
		got, fault := Spans(s)
		wantSame(t, fmt.Sprint("Op ", r.Op), []any{got, fault}, []any{want, api.Fault{}})
	}
}

// P12.1: of what is neither made nor In from 0 to -1; it has no cells anywhere.
func TestNeither(t *testing.T) {
	wantRead(t, "-0", "0~-1", 0)
	wantRead(t, "-0,1,2", "0~-1 0~-1 0~-1", 0)
	wantRead(t, ">1 -0,2", "0~-1 -1~0 0~-1", 1)
	wantRead(t, "1: -0", "0~-1 0~0", 1)
	wantRead(t, "1: 2:1 4: -0,3", "0~-1 0~1 1~1 0~-1 2~2", 2)
	s := api.System{Vars: types("i300 b i b300"), Rules: []api.Rule{number(2, 7)}}
	wantLive(t, "arrays", s, readSpans("0~-1 0~-1 0~0 0~-1"), 1)
}

// P12.1: systems without rules, and without variables.
func TestWithout(t *testing.T) {
	wantLive(t, "nothing", api.System{}, nil, 0)
	wantLive(t, "empty lists", api.System{Vars: []api.Var{}, In: []int{}, Out: []int{}, Rules: []api.Rule{}}, nil, 0)
	s := api.System{Vars: types("i b3 b i4 i")}
	wantLive(t, "variables alone", s, readSpans("0~-1 0~-1 0~-1 0~-1 0~-1"), 0)
	s.In = []int{3, 1}
	wantLive(t, "In", s, readSpans("0~-1 -1~-1 0~-1 -1~-1 0~-1"), 7)
	s.Out = []int{1}
	wantLive(t, "Out", s, readSpans("0~-1 -1~0 0~-1 -1~-1 0~-1"), 7)
	s.Out = []int{3, 1, 3}
	wantLive(t, "Out both", s, readSpans("0~-1 -1~0 0~-1 -1~0 0~-1"), 7)
}

// besides is a system over everyType, which is In, and one more of that type, which the
// first rule makes; then come two that use nothing, the rule, and two more of those.
func besides(makes int, maker, r api.Rule) api.System {
	given := everyType()
	count := len(given)
	s := api.System{Vars: append(given, given[makes]), In: upTo(0, count)}
	s.Rules = []api.Rule{maker}
	for i, r := range []api.Rule{number(0, 1), number(0, 2), r, number(0, 3), number(0, 4)} {
		r.Out = count + 1 + i
		s.Rules, s.Vars = append(s.Rules, r), append(s.Vars, types("i")...)
	}
	return s
}

// P12.1: what rules of every Op make is needed by each place of rules of every Op where
// these name a variable: by that rule, and not by those around it; A[1] of a QPre alone
// is needed behind all.
func TestEveryPlace(t *testing.T) {
	const used, user, userAt = 6, 9, 3
	ops, makers, steps := map[[2]int]int{}, map[int]int{}, map[[2]int]int{}
	for _, k := range everyKind() {
		linked := k.making(user)
		for at, place := range placesOf(&linked) {
			of := *place
			for _, other := range everyKind() {
				if other.makes != of {
					continue
				}
				what := fmt.Sprint("Op ", other.Op, " at place ", at, " of Op ", k.Op)
				*place = used
				s := besides(of, other.making(used), linked)
				s.Vars[user] = everyType()[k.makes]
				last := userAt
				if k.Op == api.QPre && at == 1 {
					last = len(s.Rules)
				}
				wantSpan(t, what, s, used, api.Span{From: 0, To: last})
				*place = of
				s.Rules[userAt] = k.making(user)
				wantSpan(t, what+": without it", s, used, api.Span{})
				makers[other.Op]++
			}
			if at < len(k.A) {
				ops[[2]int{k.Op, at}]++
			}
		}
		for _, p := range k.E {
			steps[[2]int{k.Op, p.Op}]++
		}
	}
	if len(makers) != api.QScanE || len(ops) != 1+1+2+3+2+2+1+3+3+1+2+2+1+1 || len(steps) != 3*api.PAt {
		t.Errorf("made by %v; places %v; steps %v", makers, ops, steps)
	}
}

// wantSpan asks for one variable's span.
func wantSpan(t *testing.T, what string, s api.System, variable int, want api.Span) {
	t.Helper()
	got, fault := Spans(s)
	if fault.Code != 0 || len(got) != len(s.Vars) || got[variable] != want {
		t.Errorf("%s: %v, fault %v, want %v of %d", what, got, fault, want, variable)
	}
}

// P12.1: a variable that stands only in steps of a rule that has none is not needed by
// it, be it made ahead or behind.
func TestNoSteps(t *testing.T) {
	const used, user, userAt = 6, 9, 3
	seen := map[int]int{}
	for _, k := range everyKind() {
		if k.Op >= api.QEach {
			continue
		}
		r := k.making(user)
		r.E = []api.Push{sca(used), arr(used, 1), at(used), sca(user), sca(user + 1)}
		s := besides(threeNumbers, rule(api.QFill, 0, used, aNumber), r)
		s.Vars[user] = everyType()[k.makes]
		wantSpan(t, fmt.Sprint("Op ", k.Op), s, used, api.Span{})
		wantSpan(t, fmt.Sprint("Op ", k.Op), s, user, api.Span{From: userAt, To: userAt})
		wantSpan(t, fmt.Sprint("Op ", k.Op), s, user+1, api.Span{From: 4, To: 4})
		for _, v := range []int{-1, 400, 1 << 32, least, greatest} {
			s.Rules[userAt].E = append(s.Rules[userAt].E, sca(v), arr(v, least), at(v), api.Push{Op: v, K: v, V: v, N: greatest})
		}
		s.Rules[userAt].E = slices.Repeat(s.Rules[userAt].E, 5)
		wantSpan(t, fmt.Sprint("Op ", k.Op, " with whatever steps"), s, used, api.Span{})
		seen[k.Op]++
	}
	if len(seen) != api.QPre {
		t.Errorf("seen: %v", seen)
	}
}

// P12.1: V of steps that have none is not needed, whatever it is.
func TestNamelessSteps(t *testing.T) {
	const used, user, userAt = 6, 9, 3
	seen := map[int]int{}
	for _, k := range everyKind() {
		for i := range k.E {
			r := k.making(user)
			if slices.Contains(placesOf(&r), &r.E[i].V) {
				continue
			}
			for _, v := range []int{used, user, user + 1, -1, 400, least, greatest} {
				r.E[i].V = v
				s := besides(aNumber, number(used, 0), r)
				s.Vars[user] = everyType()[k.makes]
				wantSpan(t, fmt.Sprint("Op ", k.Op, " step ", i), s, used, api.Span{})
				wantSpan(t, fmt.Sprint("Op ", k.Op, " step ", i), s, user, api.Span{From: userAt, To: userAt})
			}
			seen[r.E[i].Op]++
		}
	}
	if len(seen) != 5 {
		t.Errorf("seen: %v", seen)
	}
}

// P12.1: numbers of rules, variables and cells are not taken for one another.
func TestOtherFields(t *testing.T) {
	s := api.System{Vars: types("i i i2 i i3 i"), In: []int{4}, Out: []int{5}, Rules: []api.Rule{
		{Op: api.QNum, Out: 1, K: 3, N: 5},
		{Op: api.QNum, Out: 0, K: 1, N: 1},
		{Op: api.QSlice, Out: 2, K: 0, N: 1, A: []int{4}},
		{Op: api.QNum, Out: 3, K: 1, N: 0},
		{Op: api.QFoldE, Out: 5, K: 1, N: 1, A: []int{3}, E: []api.Push{{Op: api.PNum, N: 2}, {Op: api.PArr, V: 4, N: 2}, bin(api.KMul)}},
	}}
	wantLive(t, "N and K", s, readSpans("1~1 0~0 2~2 3~4 -1~4 4~5"), 5)
}
