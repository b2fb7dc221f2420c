package place

import (
	"fmt"
	"slices"
	"testing"

	"loomwork/api"
)

// The chapter's example.
func TestExample(t *testing.T) {
	wantRead(t, "+4 :4=0=0 >1", "1 1", 5)
	const a, b = 0, 1
	s := api.System{Vars: types("i4 i4"), In: []int{a}, Out: []int{b}, Rules: []api.Rule{
		each(b, arr(a, 0), arr(a, 0), bin(api.KAdd)),
	}}
	wantPlan(t, "b = map(add, a, a)", s, []int{1, 1}, []int{-1}, 5)
	wantOver(t, "b over a", s, s.Rules[0], a, true)
	s.Out = []int{b, a}
	wantPlan(t, "a is Out, too", s, []int{1, 5}, []int{-1}, 9)
	s.Out, s.Rules[0] = []int{b}, rule(api.QBin, api.KAdd, b, a, a)
	wantPlan(t, "a rule that is no QEach", s, []int{1, 5}, []int{-1}, 9)
}

// P13.1: the cell 0 is kept free, also if there is nothing else.
func TestWithout(t *testing.T) {
	wantPlan(t, "nothing", api.System{}, nil, nil, 1)
	wantPlan(t, "empty lists", api.System{Vars: []api.Var{}, In: []int{}, Out: []int{}, Rules: []api.Rule{}}, nil, nil, 1)
	wantRead(t, "-0", "-1", 1)
	wantRead(t, "-0 -300 -1", "-1 -1 -1", 1)
	wantRead(t, "+0", "1", 2)
	wantRead(t, "+1", "1", 2)
	wantRead(t, "+300 >0", "1", 301)
	wantRead(t, ":0", "1", 2)
	wantRead(t, ":5 >0", "1", 6)
	wantRead(t, ":5 :3 >", "1 1", 6)
}

// P13.1: In's variables lie one behind the other, in In's order, whether rules use them
// or not.
func TestGiven(t *testing.T) {
	wantRead(t, "+4 +0 +2 +1", "1 5 6 8", 9)
	wantRead(t, "+0 +0 +0 >1", "1 2 3", 4)
	wantRead(t, "+3 -5 +3 -0 +3", "1 -1 4 -1 7", 10)
	wantRead(t, "+2 +2 :0@1 >2", "1 3 1", 5)
	s := read("+4 +0 +2 +1")
	s.In = []int{2, 3, 0}
	wantPlan(t, "another order", s, []int{4, -1, 1, 3}, nil, 8)
	s.In = []int{3, 1, 2, 0}
	wantPlan(t, "yet another order", s, []int{5, 2, 3, 1}, nil, 9)
	s.Out = []int{0, 2, 2}
	wantPlan(t, "some are Out", s, []int{5, 2, 3, 1}, nil, 9)
}

// P13.1: numbers and truths lie alike.
func TestElems(t *testing.T) {
	for _, text := range []string{"i i i2 i3", "b b b2 b3", "i b b2 i3", "b i i2 b3"} {
		s := api.System{Vars: types(text), In: upTo(0, 4), Out: upTo(0, 4)}
		wantPlan(t, text, s, []int{1, 2, 3, 5}, nil, 8)
	}
	s := api.System{Vars: types("i2 b2"), In: []int{0}, Out: []int{1}, Rules: []api.Rule{
		each(1, arr(0, 0), num(3), bin(api.KLess)),
	}}
	wantPlan(t, "truths over numbers", s, []int{1, 1}, []int{-1}, 3)
}

// P13.1: what is neither In nor made lies nowhere, and takes no cell.
func TestNeither(t *testing.T) {
	wantRead(t, "-300 +2 -0 :3@1 -1 >3", "-1 1 -1 3 -1", 6)
	wantRead(t, "-300 :2 -0 :3 -1 >3", "-1 1 -1 1 -1", 4)
}

// P13.1: what was needed no longer ahead of a rule has its cells taken by what the rule
// makes, whatever the rule is.
func TestNeededNoMore(t *testing.T) {
	wantRead(t, ":4 :4", "1 1", 5)
	wantRead(t, ":4 :2", "1 1", 5)
	wantRead(t, ":2 :4", "1 1", 5)
	wantRead(t, "+4 :4", "1 1", 5)
	wantRead(t, "+2 +2 :4", "1 3 1", 5)
	wantRead(t, "+2 +2 :5", "1 3 1", 6)
	wantRead(t, "+4 :2 :2@1 :4~0 >3", "1 5 7 5", 9)
	wantRead(t, "+2 :4@0 :4~1 :4~2 :4~3", "1 3 7 1 5", 11)
	wantRead(t, "+2 +0 :4@0 :2=1 :2~3", "1 3 4 1 3", 8)
}

// P13.1: over what is needed up to this rule, if the rule may be made over it.
func TestAtLastUse(t *testing.T) {
	wantRead(t, "+4 :4=0", "1 1", 5)
	wantRead(t, "+4 :4@0", "1 5", 9)
	wantRead(t, "+4 :4~0", "1 5", 9)
	wantRead(t, "+0 :0=0", "1 1", 2)
	wantRead(t, "+0 :0~0", "1 2", 3)
	wantRead(t, "+4 :3=0", "1 5", 8)
	wantRead(t, "+1 :0@0", "1 2", 3)
	wantRead(t, "+0 :1=0", "1 2", 3)
	wantRead(t, "+4 :4=0@0", "1 5", 9)
	wantRead(t, "+4 :4=0 :4=1 :4=2", "1 1 1 1", 5)
	wantRead(t, ":4 :4=0 :4~1 :4=2", "1 1 5 1", 9)
	wantRead(t, "+4 +4 :4=0=1", "1 5 1", 9)
	wantRead(t, "+4 +4 :4@0=1", "1 5 5", 9)
	wantRead(t, "+4 +4 :4=0@1", "1 5 1", 9)
	wantRead(t, "+4 +4 :4@0@1", "1 5 9", 13)
}

// P13.1: a fold makes a scalar, and is not made over anything; a scan may be.
func TestFoldsAndScans(t *testing.T) {
	fold := func(op, out int, a []int, steps ...api.Push) api.Rule {
		return api.Rule{Op: op, K: api.KAdd, Out: out, N: 4, A: a, E: steps}
	}
	given := api.System{Vars: types("i i4 i4"), In: []int{0, 1}, Out: []int{2}}
	s := given
	s.Rules = []api.Rule{fold(api.QScanE, 2, []int{0}, arr(1, 0))}
	wantPlan(t, "a scan", s, []int{1, 2, 2}, []int{-1}, 6)
	s.Rules = []api.Rule{fold(api.QScanE, 2, []int{0}, num(0), num(1), at(1))}
	wantPlan(t, "a scan by PAt", s, []int{1, 2, 6}, []int{-1}, 10)
	s.Rules = []api.Rule{fold(api.QScan, 2, []int{0, 1})}
	wantPlan(t, "a scan of an array", s, []int{1, 2, 6}, []int{-1}, 10)
	s.Vars = types("i i4 i")
	s.Rules = []api.Rule{fold(api.QFoldE, 2, []int{0}, arr(1, 0))}
	wantPlan(t, "a fold", s, []int{1, 2, 6}, []int{-1}, 7)
	s.Rules = []api.Rule{fold(api.QFoldE, 2, []int{0}, sca(0))}
	wantPlan(t, "a fold of its beginning; the array is needed no more", s, []int{1, 2, 2}, []int{-1}, 6)
	s.Rules = []api.Rule{fold(api.QFold, 2, []int{0, 1})}
	wantPlan(t, "a fold of an array", s, []int{1, 2, 6}, []int{-1}, 7)
}

// P13.1: never over what is needed by a later rule, is Out's, or is kept by a QPre.
func TestNeededLonger(t *testing.T) {
	wantRead(t, "+4 :4=0 >0,1", "1 5", 9)
	wantRead(t, "+4 :4=0 >0", "1 5", 9)
	wantRead(t, "+4 :4=0 :4=0", "1 5 1", 9)
	wantRead(t, "+4 :4=0 :4=1 :4=0", "1 5 5 1", 9)
	wantRead(t, "+4 :4 :4=0", "1 5 1", 9)
	wantRead(t, "+4 :4 :4=0=1 >1", "1 5 1", 9)
	wantRead(t, ":4 :4=0 >0", "1 5", 9)
	wantKept(t, "+4 :4=0 <4,1,0", "5 9 13", "-1 1", 17)
	wantKept(t, "+4 <4,0,0 :4=0", "5 9 9", "1 -1", 13)
}

// P13.1: what each QPre keeps lies from the cell 1 on, rule by rule; all else behind it.
func TestKept(t *testing.T) {
	wantKept(t, "+0 <0,0,0", "2 3", "1", 4)
	wantKept(t, "+3 <3,0,0", "4 7", "1", 10)
	wantKept(t, "+3 +0 <3,0,0 :0 <0,1,3", "5 8 9 9 10", "1 -1 4", 12)
	wantKept(t, "+2 <2,0,0 <2,0,1 <2,0,2", "7 9 11 13", "1 3 5", 15)
	wantKept(t, "+0 +4 <0,0,0 <4,1,1 <0,0,0", "7 8 12 12 12", "1 2 6", 16)
	wantKept(t, "+4 +0 :2 <4,0,0 :1 <0,1,1 :2", "6 10 11 11 11 11 11", "-1 1 -1 5 -1", 15)
}

// P13.1: what a QPre makes is laid as all else is: what it keeps is not it.
func TestMadeByPre(t *testing.T) {
	wantKept(t, "+4 +4 <4,0,0", "5 9 9", "1", 13)
	wantKept(t, "+4 <4,0,1 :4=1 >2", "5 9 5", "1 -1", 13)
	wantKept(t, "+4 <4,0,0 :4=1 >2", "5 9 9", "1 -1", 13)
	wantKept(t, "+4 +0 <0,1,1 <4,0,0 :4=3 :0=2 >4,5", "6 10 11 12 12 11", "1 2 -1 -1", 16)
}

// P13.1: nothing that is laid lies on what is kept, however short it is needed.
func TestNothingOnKept(t *testing.T) {
	for i := range 4000 {
		s := sortedThrown(i, 12)
		got, fault := Make(s)
		wantSame(t, "fault", fault, api.Fault{})
		next := 1
		for number, r := range s.Rules {
			if r.Op != api.QPre {
				wantSame(t, fmt.Sprint("thrown ", i, " keeps nothing by rule ", number), got.Keep[number], -1)
				continue
			}
			wantSame(t, fmt.Sprint("thrown ", i, " keeps by rule ", number), got.Keep[number], next)
			next += max(1, s.Vars[r.Out].N)
		}
		for variable, place := range got.At {
			if place >= 0 && place < next {
				t.Fatalf("thrown %d: %d lies at %d, %d cells are kept: %v", i, variable, place, next, s)
			}
		}
	}
}

// P13.1: the first cells where there is room enough, and Cells of the last one that
// anything has, be it laid last or not.
func TestGaps(t *testing.T) {
	wantRead(t, "+2 +3 +2 :0@1 :3 >0,2,3", "1 3 6 8 3", 9)
	wantRead(t, "+2 +3 +2 :0@1 :2 >0,2,3", "1 3 6 8 3", 9)
	wantRead(t, "+2 +3 +2 :0@1 :4 >0,2,3", "1 3 6 8 9", 13)
	wantRead(t, "+2 +3 +2 :0@1 :3 :3 :4 :1 >0,2,3", "1 3 6 8 3 3 9 3", 13)
	wantRead(t, "+2 +3 +2 :0@1 :2 :1 >0,2,3,4,5", "1 3 6 8 3 5", 9)
	wantRead(t, "+2 +3 +2 :0@1 :2 :2 >0,2,3,4,5", "1 3 6 8 3 9", 11)
	wantRead(t, "+2 +2 +2 +2 :0@1@2 :4 >0,3,4", "1 3 5 7 9 3", 10)
	wantRead(t, "+2 +2 +2 +2 :0@1@2 :5 >0,3,4", "1 3 5 7 9 10", 15)
	wantRead(t, "+2 +2 +2 +2 :0@1 :4 >0,2,3,4", "1 3 5 7 9 10", 14)
	wantRead(t, "+1 +5 +1 :0 :0 :0 :0@1 :0 >0,2,3,4,5", "1 2 7 8 9 10 11 2", 12)
	wantRead(t, "+300 +1 :0@0 :300 >1,2", "1 301 302 1", 303)
}

// P13.1: of several that lie under what is made one may bar it.
func TestOneBars(t *testing.T) {
	wantRead(t, "+2 +2 +2 :6", "1 3 5 1", 7)
	wantRead(t, "+2 +2 +2 :6@0", "1 3 5 3", 9)
	wantRead(t, "+2 +2 +2 :6@1", "1 3 5 5", 11)
	wantRead(t, "+2 +2 +2 :6@2", "1 3 5 7", 13)
	wantRead(t, "+2 +2 +2 :4@2", "1 3 5 1", 7)
	wantRead(t, "+2 +2 +2 :5@2", "1 3 5 7", 12)
	wantRead(t, "+2 +2 +2 :2@1 >0", "1 3 5 5", 7)
	wantRead(t, "+2 +2 +2 :6 >0,2", "1 3 5 7", 13)
	wantRead(t, "+1 +1 +1 +1 +1 :2@1 >3", "1 2 3 4 5 5", 7)
	wantRead(t, "+1 +1 +1 +1 +1 :3@0@1@2@3@4", "1 2 3 4 5 6", 9)
}

// P13.1: what is made over another one lies from the same cell on.
func TestSameCell(t *testing.T) {
	wantRead(t, "+1 +4 :4=1", "1 2 2", 6)
	wantRead(t, "+4 +4 :4=1", "1 5 1", 9)
	wantRead(t, "+3 +4 :4=1", "1 4 4", 8)
	wantRead(t, "+2 +4 +4 :4=1=2", "1 3 7 3", 11)
	wantRead(t, "+2 +4 +4 :4@1=2", "1 3 7 7", 11)
	wantRead(t, "+2 +4 +1 +4 :4@1=3", "1 3 7 8 8", 12)
	wantRead(t, "+2 +4 +1 +4 :4=1@3", "1 3 7 8 3", 12)
	wantRead(t, "+2 +4 +1 +4 :4@1@3", "1 3 7 8 12", 16)
	wantRead(t, "+3 +2 :2=1 >", "1 4 1", 6)
	wantRead(t, "+2 :0 :2=0 >1", "1 3 1", 4)
	wantRead(t, "+2 :0 :2@0 >1", "1 3 4", 6)
}

// P13.1: over one that itself was made over another one, and not over that other one.
func TestOverAgain(t *testing.T) {
	wantRead(t, "+3 :3=0 :3=1 >2", "1 1 1", 4)
	wantRead(t, "+3 :3=0 :3@1 >2", "1 1 4", 7)
	wantRead(t, "+3 :3=0 :3@1 :3=2 >3", "1 1 4 1", 7)
	wantRead(t, "+3 :3=0 :3=1 :3=1 >", "1 1 4 1", 7)
	wantRead(t, "+3 :3=0 :3=1 >1,2", "1 1 4", 7)
}

// full is a system with so many cells of what is In, as arrays of up to 300.
func full(cells int) api.System {
	s := api.System{}
	for ; cells > 0; cells -= 300 {
		s.In = append(s.In, len(s.Vars))
		s.Vars = append(s.Vars, api.Var{Elem: 'i', N: min(cells, 300)})
	}
	return s
}

// P13.1: ErrMany at -1, by In: just as many cells as there may be, and one more.
func TestManyGiven(t *testing.T) {
	s := full(5999)
	var places []int
	for i := range 20 {
		places = append(places, 1+300*i)
	}
	wantPlan(t, "just as many", s, places, nil, 6000)
	s.Out = upTo(0, 20)
	wantPlan(t, "just as many, Out", s, places, nil, 6000)
	wantFault(t, "one more", full(6000), api.ErrMany, -1)
	wantFault(t, "two more", full(6001), api.ErrMany, -1)
	wantFault(t, "far more", full(120000), api.ErrMany, -1)
	s = full(6000)
	s.Vars = append(s.Vars, api.Var{Elem: 'i'})
	s.Rules = []api.Rule{number(20, 1)}
	wantFault(t, "one more, and a rule", s, api.ErrMany, -1)
	s.Vars[19].N--
	wantPlan(t, "a rule where there is room again", s, append(places, 1), []int{-1}, 6000)
	s.Out = upTo(0, 20)
	wantFault(t, "a rule without room", s, api.ErrMany, 0)
	s.Vars[19].N--
	wantPlan(t, "a rule for which there is just room", s, append(places, 5999), []int{-1}, 6000)
}

// P13.1: ErrMany at the rule's number.
func TestManyMade(t *testing.T) {
	s := api.System{}
	var places, keep []int
	for i := range 20 {
		places, keep = append(places, 1+300*i), append(keep, -1)
		s.Vars = append(s.Vars, api.Var{Elem: 'i', N: 300})
		s.Rules = append(s.Rules, each(i, num(1)))
	}
	s.Out = upTo(0, 20)
	wantFault(t, "one more", s, api.ErrMany, 19)
	s.Vars[19].N = 299
	wantPlan(t, "just as many", s, places, keep, 6000)
	s.Vars, s.Rules = append(s.Vars, types("i i i i")...), append(s.Rules, number(20, 1))
	wantFault(t, "one more by a scalar", s, api.ErrMany, 20)
	s.Rules = append(s.Rules, number(21, 1), number(22, 1))
	wantFault(t, "the first one that is too many", s, api.ErrMany, 20)
	s.Vars[19].N = 297
	wantPlan(t, "three scalars at one cell", s, append(places, 5998, 5998, 5998, -1), append(keep, -1, -1, -1), 5999)
	s.Vars[19].N = 298
	wantPlan(t, "just as many, by three scalars at one cell", s, append(places, 5999, 5999, 5999, -1), append(keep, -1, -1, -1), 6000)
	s.Out = append(s.Out, 20, 21)
	s.Vars[19].N = 296
	wantPlan(t, "just as many, by three scalars", s, append(places, 5997, 5998, 5999, -1), append(keep, -1, -1, -1), 6000)
	for more, at := range []int{22, 21, 20, 19} {
		s.Vars[19].N = 297 + more
		wantFault(t, fmt.Sprint("more by ", more+1), s, api.ErrMany, at)
	}
}

// keeping is a system whose first rule makes an array, and whose others keep so many
// cells by QPre, of that array, or of parts of it that are made first.
func keeping(cells int) api.System {
	s := api.System{Vars: types("i300"), Rules: []api.Rule{each(0, num(1))}}
	if rest := cells % 300; rest > 0 {
		s.Vars = append(s.Vars, api.Var{Elem: 'i', N: rest}, api.Var{Elem: 'i', N: rest})
		s.Rules = append(s.Rules, each(1, num(1)), pre(2, 1, 1))
	}
	for range cells / 300 {
		s.Rules = append(s.Rules, pre(len(s.Vars), 0, 0))
		s.Vars = append(s.Vars, s.Vars[0])
	}
	return s
}

// P13.1: ErrMany at -1, by what is kept, ahead of any rule that makes something.
func TestManyKept(t *testing.T) {
	wantFault(t, "just as many, and none for the first rule", keeping(5999), api.ErrMany, 0)
	wantFault(t, "one more", keeping(6000), api.ErrMany, -1)
	wantFault(t, "two more", keeping(6001), api.ErrMany, -1)
	wantFault(t, "far more", keeping(300*399), api.ErrMany, -1)
	got, fault := Make(keeping(5249))
	wantSame(t, "room for all that is made", []any{got.Cells, fault}, []any{1 + 5249 + 300 + 149 + 300, api.Fault{}})
	wantFault(t, "room for all but one", keeping(5250), api.ErrMany, 3)
	wantFault(t, "room for the first one", keeping(5400), api.ErrMany, 1)
}

// P13.1: what is kept and In count together, at -1.
func TestManyKeptAndGiven(t *testing.T) {
	for _, kept := range []int{300, 299, 1, 2700} {
		s := keeping(kept)
		withIn := func(cells int) api.System {
			all := s
			all.Vars = slices.Clone(s.Vars)
			for ; cells > 0; cells -= 300 {
				all.In = append(all.In, len(all.Vars))
				all.Vars = append(all.Vars, api.Var{Elem: 'i', N: min(cells, 300)})
			}
			all.Out = all.In
			return all
		}
		wantFault(t, fmt.Sprint(kept, " kept, just as many"), withIn(5999-kept), api.ErrMany, 0)
		wantFault(t, fmt.Sprint(kept, " kept, one more"), withIn(6000-kept), api.ErrMany, -1)
		wantFault(t, fmt.Sprint(kept, " kept, far more"), withIn(6600-kept), api.ErrMany, -1)
	}
}
