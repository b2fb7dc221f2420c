package emit

import (
	"fmt"
	"slices"
	"strings"
	"testing"

	"loomwork/api"
)

// eleven are the instructions of a PAt, by their registers: p is where the place lies.
func eleven(p, v int, n int64) []api.Ins {
	q, a, b, c := p+1, p+2, p+3, p+4
	return []api.Ins{
		{Op: api.INum, R: a, N: 0},
		{Op: api.IBin, K: api.KLess, R: b, A: p, B: a},
		{Op: api.IUn, K: api.KNot, R: b, A: b},
		{Op: api.INum, R: c, N: n},
		{Op: api.IBin, K: api.KLess, R: c, A: p, B: c},
		{Op: api.IBin, K: api.KAnd, R: b, A: b, B: c},
		{Op: api.IMove, R: c, A: b},
		{Op: api.ISel, R: c, A: p, B: a},
		{Op: api.ILoadX, R: c, A: c, B: int(n), N: int64(v)},
		{Op: api.ISel, R: b, A: c, B: q},
		{Op: api.IMove, R: p, A: b},
	}
}

// P17.1: the eleven instructions, in their order, with their registers, of arrays at their
// bounds.
func TestPlace(t *testing.T) {
	for _, cells := range [][2]int{{0, 1}, {0, 400}, {1, 399}, {399, 1}, {100, 300}, {50, 301}, {7, 3}} {
		v, n := cells[0], int64(cells[1])
		want := slices.Concat(instructions(2, "load s0 1; load s1 2"), eleven(2, v, n))
		for _, turns := range []int{1, 2, 300} {
			wantTree(t, fmt.Sprint(n, " cells from ", v, " on"), tree(fmt.Sprintf("c1 c2 t%d,%d", v, n)), turns, want, want)
		}
	}
	m := made(t, "all cells", over(6000, ">", one(0, "c1 c2 t0,6000")))
	wantSame(t, "all cells", m.Code[2:13], eleven(2, 0, 6000))
}

// P17.1: of a PAt in each place: one that is a place, one that is another value, both.
func TestPlaceInPlace(t *testing.T) {
	first, second := instructions(2, "load s0 1; load s1 2"), instructions(3, "load s0 3; load s1 4")
	want := slices.Concat(first, eleven(2, 5, 2), instructions(2, "load s1 4"), eleven(2, 6, 3))
	wantTree(t, "a place's place", tree("c1 c2 t5,2 c4 t6,3"), 2, want, want)
	want = slices.Concat(instructions(2, "load s0 1"), second, eleven(3, 5, 2), eleven(2, 6, 3))
	wantTree(t, "another value's place", tree("c1 c3 c4 t5,2 t6,3"), 2, want, want)
	want = slices.Concat(first, eleven(2, 5, 2), second, eleven(3, 7, 4), eleven(2, 6, 3))
	wantTree(t, "both", tree("c1 c2 t5,2 c3 c4 t7,4 t6,3"), 2, want, want)
	inLoop := slices.Concat(instructions(2, "num s0 0; add s0 s0 turn; loadx s1 turn 9 5"), eleven(2, 5, 2))
	inNone := slices.Concat(instructions(2, "num s0 0; load s1 9"), eleven(2, 5, 2))
	wantTree(t, "of the turn", tree("k a9 t5,2"), 5, inLoop, inNone)
}

// P17.1: 11 PAt in one another are a tree, from the front or from behind.
func TestManyPlaces(t *testing.T) {
	want := instructions(2, "num s0 1")
	for range 11 {
		want = append(want, slices.Concat(instructions(3, "num s0 1"), eleven(2, 4, 5))...)
	}
	wantTree(t, "from the front", tree("1"+strings.Repeat(" 1 t4,5", 11)), 2, want, want)
	want = nil
	for i := range 12 {
		want = append(want, instructions(2+i, "num s0 1")...)
	}
	for i := range 11 {
		want = append(want, eleven(12-i, 4, 5)...)
	}
	wantTree(t, "from behind", tree(strings.Repeat("1 ", 12)+strings.Repeat("t4,5 ", 11)), 2, want, want)
}

// deepPlace is a tree that has a PAt on top of others, so that the stack is so high ahead
// of it; what lies under it is put together by as few steps as can be.
func deepPlace(height int) []api.Push {
	steps := append(tree(strings.Repeat("1 ", height)), tree("t4,5")...)
	for left := height - 1; left > 1; {
		if left > 2 {
			steps, left = append(steps, tree("sel")...), left-2
		} else {
			steps, left = append(steps, tree("add")...), left-1
		}
	}
	return steps
}

// P17.1: a PAt as high in the stack as a tree lets it stand.
func TestHighPlaces(t *testing.T) {
	highest := 0
	for height := 2; height <= api.MaxTree; height++ {
		steps := deepPlace(height)
		l := over(400, ">", api.Loop{Op: api.LOne, E: steps})
		if len(steps) > api.MaxTree {
			wantFault(t, fmt.Sprint("too high: ", height), l, nil, api.ErrForm, 0)
			continue
		}
		highest = height
		m := made(t, fmt.Sprint("high: ", height), l)
		wantSame(t, fmt.Sprint("high: ", height), m.Code[height:height+11], eleven(height, 4, 5))
		wantSame(t, fmt.Sprint("Regs, high: ", height), m.Regs, height+5)
	}
	wantSame(t, "highest", highest, 16)
	full := deepPlace(highest)
	wantSame(t, "steps of the highest", len(full), 24)
	want := saidTree(full, 2, 0)
	wantTree(t, "the highest", full, 3, want, want)
}
