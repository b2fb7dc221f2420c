package live

import (
	"fmt"
	"slices"
	"testing"

	"loomwork/api"
)

// line is a system of variables of numbers, each of so many cells (0: a scalar), that
// nobody makes yet.
func line(cells ...int) api.System {
	s := api.System{}
	for _, n := range cells {
		s.Vars = append(s.Vars, api.Var{Elem: 'i', N: n})
	}
	return s
}

// P12.2: a scalar counts 1, an array its cells, whatever they are of.
func TestCells(t *testing.T) {
	for text, cells := range map[string]int{"i": 1, "b": 1, "i1": 1, "b1": 1, "i2": 2, "b2": 2, "i300": 300, "b300": 300} {
		given := api.System{Vars: types(text), In: []int{0}}
		wantLive(t, text+" In", given, readSpans("-1~-1"), cells)
		given.Out = []int{0, 0}
		wantLive(t, text+" In and Out", given, readSpans("-1~0"), cells)
		elem := num(4)
		if text[0] == 'b' {
			elem = api.Push{Op: api.PNum, K: 1, N: 1}
		}
		made := api.System{Vars: types(text), Rules: []api.Rule{each(0, elem)}}
		wantLive(t, text+" made", made, readSpans("0~0"), cells)
		made.Out = []int{0}
		wantLive(t, text+" made, Out", made, readSpans("0~1"), cells)
		wantLive(t, text+" neither", api.System{Vars: types(text)}, readSpans("0~-1"), 0)
	}
}

// P12.2: spans that have one place in common count together; those that only touch, and
// those that do not even touch, do not.
func TestMeet(t *testing.T) {
	wide := func(out int) api.Rule { return each(out, num(1)) }
	s := line(10, 20)
	s.Rules = []api.Rule{wide(0), wide(1)}
	wantLive(t, "touch", s, readSpans("0~0 1~1"), 20)
	s.Vars[0].N = 30
	wantLive(t, "touch, the first has more", s, readSpans("0~0 1~1"), 30)
	s.Rules[1].E = []api.Push{arr(0, 0)}
	wantLive(t, "one place", s, readSpans("0~1 1~1"), 50)
	s.Out = []int{0}
	wantLive(t, "two places", s, readSpans("0~2 1~1"), 50)
	s = line(10, 20, 0)
	s.Rules = []api.Rule{wide(0), wide(2), wide(1)}
	wantLive(t, "do not touch", s, readSpans("0~0 2~2 1~1"), 20)
	s.Rules[1].E = []api.Push{num(1), num(2), at(0)}
	wantLive(t, "touch, and one place", s, readSpans("0~1 2~2 1~1"), 20)
	s.Rules[2].E = []api.Push{sca(2)}
	wantLive(t, "one place, and one place", s, readSpans("0~1 2~2 1~2"), 21)
	s = line(10, 20)
	s.In, s.Rules = []int{0}, []api.Rule{wide(1)}
	wantLive(t, "In, touch", s, readSpans("-1~-1 0~0"), 20)
	s.Rules[0].E = []api.Push{num(0), num(1), at(0)}
	wantLive(t, "In, one place", s, readSpans("-1~0 0~0"), 30)
	s.Rules, s.Out = []api.Rule{wide(1)}, []int{0}
	wantLive(t, "In, Out, two places", s, readSpans("-1~1 0~0"), 30)
}

// P12.2: those count together that have one place in common, not those of which each
// meets another one.
func TestChain(t *testing.T) {
	s := line(5, 7, 11, 13)
	steps := func(of int) []api.Push { return []api.Push{num(0), num(1), at(of)} }
	s.Rules = []api.Rule{each(0, num(1)), each(1, steps(0)...), each(2, steps(1)...), each(3, steps(2)...)}
	wantLive(t, "chain", s, readSpans("0~1 1~2 2~3 3~3"), 24)
	s.Vars[1].N = 100
	wantLive(t, "more in the middle", s, readSpans("0~1 1~2 2~3 3~3"), 111)
	s.Vars[0].N = 20
	wantLive(t, "more at the front", s, readSpans("0~1 1~2 2~3 3~3"), 120)
	s.Out = []int{0}
	wantLive(t, "a long one", s, readSpans("0~4 1~2 2~3 3~3"), 131)
}

// P12.2: the most may be at -1, at each rule, and behind the last one.
func TestPlaces(t *testing.T) {
	s := line(100, 3, 4, 5)
	s.In = []int{0, 1}
	s.Rules = []api.Rule{each(2, num(1)), each(3, num(2))}
	wantLive(t, "at -1", s, readSpans("-1~-1 -1~-1 0~0 1~1"), 103)
	s.Out = []int{1, 3, 2}
	wantLive(t, "at -1, and less behind", s, readSpans("-1~-1 -1~2 0~2 1~2"), 103)
	s.Vars[0].N = 8
	wantLive(t, "behind the last", s, readSpans("-1~-1 -1~2 0~2 1~2"), 12)
	s.Vars[0].N = 10
	wantLive(t, "at -1 again", s, readSpans("-1~-1 -1~2 0~2 1~2"), 13)
	for wide := range 7 {
		s = line(slices.Repeat([]int{2}, 7)...)
		for out := range s.Vars {
			s.Rules = append(s.Rules, each(out, num(1)))
		}
		s.Vars[wide].N = 9
		var want []api.Span
		for number := range s.Rules {
			want = append(want, api.Span{From: number, To: number})
		}
		wantLive(t, fmt.Sprint("at rule ", wide), s, want, 9)
	}
}

// P12.2: the place behind the last rule has no more than the last rule's place: it has
// what the last rule makes only if that is Out's or kept.
func TestBehindAll(t *testing.T) {
	s := line(0, 0, 6)
	s.Rules = []api.Rule{number(0, 1), number(1, 1), each(2, sca(0))}
	s.Out = []int{1}
	wantLive(t, "not Out", s, readSpans("0~2 1~3 2~2"), 8)
	s.Out = []int{1, 2}
	wantLive(t, "Out", s, readSpans("0~2 1~3 2~3"), 8)
	s.Rules = append(s.Rules, pre(3, 2, 3))
	s.Vars = append(s.Vars, api.Var{Elem: 'i', N: 6})
	wantLive(t, "kept", s, readSpans("0~2 1~4 2~4 3~4"), 13)
	s.Out = nil
	wantLive(t, "kept, no Out", s, readSpans("0~2 1~1 2~3 3~4"), 12)
}

// P12.2: as many cells as there may be, all at one place.
func TestAllCells(t *testing.T) {
	s := api.System{Vars: slices.Repeat(types("i300"), api.MaxVars), In: upTo(0, api.MaxVars)}
	wantLive(t, "all In", s, slices.Repeat(readSpans("-1~-1"), api.MaxVars), 120000)
	s = api.System{Vars: s.Vars, Out: upTo(0, api.MaxVars)}
	var want []api.Span
	for out := range s.Vars {
		s.Rules = append(s.Rules, each(out, num(1)))
		want = append(want, api.Span{From: out, To: api.MaxRules})
	}
	wantLive(t, "all Out", s, want, 120000)
	s.Out = s.Out[:1]
	for number := range want[1:] {
		want[number+1].To = number + 1
	}
	wantLive(t, "one Out", s, want, 600)
}
