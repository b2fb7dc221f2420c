package emit

import (
	"fmt"
	"slices"
	"testing"

	"loomwork/api"
)

// turnsOf are how many turns are asked for: the fewest, the most, and some between.
func turnsOf() []int { return []int{1, 2, 3, 299, 300} }

// P17.1: LOne: E at 2; IStore 2 to To.
func TestOne(t *testing.T) {
	wantCode(t, "a number", 9, one(5, "7"), 3, []api.Ins{{Op: api.INum, R: 2, N: 7}, {Op: api.IStore, R: 2, N: 5}})
	wantCode(t, "a longer one", 9, one(0, "c1 c2 mul neg"), 4, instructions(2, "load s0 1; load s1 2; mul s0 s0 s1; neg s0 s0; store s0 0"))
	for _, to := range []int{0, 1, 2, 5998, 5999} {
		wantCode(t, fmt.Sprint("to ", to), 6000, one(to, "c3"), 3, instructions(2, fmt.Sprint("load s0 3; store s0 ", to)))
	}
}

// P17.1: LEach: ILoop 0 N; E at 2; IStoreX 2 by the turn to To, B N; IEnd.
func TestEach(t *testing.T) {
	wantCode(t, "of two", 9, each(5, 2, "7"), 3, []api.Ins{
		{Op: api.ILoop, N: 2}, {Op: api.INum, R: 2, N: 7}, {Op: api.IStoreX, R: 2, A: 0, B: 2, N: 5}, {Op: api.IEnd}})
	for _, n := range turnsOf() {
		for _, to := range []int{0, 1, 400 - n} {
			text := fmt.Sprintf("loop %[1]d; loadx s0 turn 9 %[1]d; num s1 5; add s0 s0 s1; storex s0 turn %[2]d %[1]d; end", n, to)
			wantCode(t, fmt.Sprint(n, " turns to ", to), 400, each(to, n, "a9 5 add"), 4, instructions(2, text))
		}
	}
}

// P17.1: LFold: F at 2, in no loop; IMove 1 of 2; ILoop 0 N; E at 2; IBin K 1 of 1, 2;
// IEnd; IStore 1 to To.
func TestFold(t *testing.T) {
	wantCode(t, "of two", 9, fold(api.KMax, 5, 2, "7", "8"), 3, []api.Ins{
		{Op: api.INum, R: 2, N: 7}, {Op: api.IMove, R: 1, A: 2}, {Op: api.ILoop, N: 2}, {Op: api.INum, R: 2, N: 8},
		{Op: api.IBin, K: api.KMax, R: 1, A: 1, B: 2}, {Op: api.IEnd}, {Op: api.IStore, R: 1, N: 5}})
	for _, n := range turnsOf() {
		for _, to := range []int{0, 1, 399} {
			for k := api.KAdd; k <= api.KXor; k++ {
				text := fmt.Sprintf("load s0 3; num s1 4; sub s0 s0 s1; move joint s0; loop %[1]d; loadx s0 turn 9 %[1]d; %[3]s joint joint s0; end; store joint %[2]d", n, to, nameOf(k))
				wantCode(t, fmt.Sprint(nameOf(k), " of ", n, " turns to ", to), 400, fold(k, to, n, "c3 4 sub", "a9"), 4, instructions(2, text))
			}
		}
	}
}

// P17.1: LScan likewise, but IStoreX 1 by the turn to To, B N, ahead of IEnd, and nothing
// behind it.
func TestScan(t *testing.T) {
	wantCode(t, "of two", 9, scan(api.KLess, 5, 2, "7", "8"), 3, []api.Ins{
		{Op: api.INum, R: 2, N: 7}, {Op: api.IMove, R: 1, A: 2}, {Op: api.ILoop, N: 2}, {Op: api.INum, R: 2, N: 8},
		{Op: api.IBin, K: api.KLess, R: 1, A: 1, B: 2}, {Op: api.IStoreX, R: 1, A: 0, B: 2, N: 5}, {Op: api.IEnd}})
	for _, n := range turnsOf() {
		for _, to := range []int{0, 1, 400 - n} {
			for k := api.KAdd; k <= api.KXor; k++ {
				text := fmt.Sprintf("load s0 3; num s1 4; sub s0 s0 s1; move joint s0; loop %[1]d; loadx s0 turn 9 %[1]d; %[3]s joint joint s0; storex joint turn %[2]d %[1]d; end", n, to, nameOf(k))
				wantCode(t, fmt.Sprint(nameOf(k), " of ", n, " turns to ", to), 400, scan(k, to, n, "c3 4 sub", "a9"), 4, instructions(2, text))
			}
		}
	}
}

// P17.1: Cost is how many instructions are done, by code.Cost.
func TestCosts(t *testing.T) {
	for _, n := range turnsOf() {
		for name, step := range map[string]struct {
			s    api.Loop
			cost int
		}{
			"LOne":  {one(0, "c0 neg"), 3},
			"LEach": {each(0, n, "a0 neg"), 1 + n*4},
			"LFold": {fold(api.KAdd, 0, n, "1", "a0 neg"), 2 + 1 + n*4 + 1},
			"LScan": {scan(api.KAdd, 0, n, "1", "a0 neg"), 2 + 1 + n*5},
		} {
			wantSame(t, fmt.Sprint(name, " of ", n), made(t, name, over(400, ">", step.s)).Cost, step.cost)
			both := made(t, name, over(400, ">", step.s, one(1, "2"), step.s))
			wantSame(t, fmt.Sprint(name, " of ", n, " and others"), both.Cost, 2*step.cost+2)
		}
	}
}

// P17.1: loops without steps are an image without instructions.
func TestNoSteps(t *testing.T) {
	for _, none := range [][]api.Loop{nil, {}} {
		for _, cells := range []int{1, 2, 6000} {
			l := api.Loops{Cells: cells, Put: []int{0}, Get: []int{cells - 1, 0}, Steps: none}
			m := made(t, "no steps", l, 0)
			wantSame(t, "no steps", m, api.Image{Cells: cells, Regs: 3, Put: []int{0}, Bools: []int{0}, Get: []int{cells - 1, 0}})
		}
	}
	wantSame(t, "nothing but a cell", made(t, "a cell", api.Loops{Cells: 1}), api.Image{Cells: 1, Regs: 3})
}

// P17.1: the code of steps stands step by step, whatever stands beside them.
func TestStepByStep(t *testing.T) {
	steps := []api.Loop{one(3, "c1"), each(2, 4, "k c0 add"), fold(api.KMul, 1, 5, "c0 not", "a2"), scan(api.KMin, 0, 2, "4", "k 1 t2,3"), one(3, "1 2 t2,3")}
	d := dice(5)
	for range 500 {
		var l []api.Loop
		var want []api.Ins
		cost := 0
		for range d.below(9) {
			s := pick(&d, steps)
			alone, itsCost := saidStep(s)
			l, want, cost = append(l, s), slices.Concat(want, alone), cost+itsCost
		}
		m := made(t, "steps", over(9, "> 0", l...))
		wantSame(t, "steps", m.Code, want)
		wantSame(t, "their cost", m.Cost, cost)
	}
}
