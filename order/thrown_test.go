package order

import (
	"fmt"
	"slices"
	"testing"

	"loomwork/api"
)

// P8: all systems of up to four rules that make numbers of one another: each rule
// needs any of what there is.
func TestAllNeeds(t *testing.T) {
	for count := range 4 {
		allNeeds(t, count)
	}
	if !testing.Short() {
		allNeeds(t, 4)
	}
}

func allNeeds(t *testing.T, count int) {
	t.Helper()
	rounds, sorts := 0, 0
	for links := range 1 << (count * count) {
		s := api.System{Vars: numbers(count)}
		for out := range count {
			var of []int
			for v := range count {
				if links>>(out*count+v)&1 == 1 {
					of = append(of, v)
				}
			}
			s.Rules = append(s.Rules, sum(out, of...))
		}
		if links%2 == 1 { // rules, then, are not in the order of their variables
			slices.Reverse(s.Rules)
		}
		if h := holdAgainstSaid(t, fmt.Sprint(count, " rules, links ", links), s); len(h.left) > 0 {
			rounds++
		} else {
			sorts++
		}
	}
	want := []int{1, 1, 3, 25, 543}[count] // so many ways there are without a round
	if sorts != want || rounds != 1<<(count*count)-want {
		t.Errorf("of %d rules %d were sorted, and %d have a round", count, sorts, rounds)
	}
}

// thrown is a system of so many rules at most, some of them QPre, some of what is
// In; its variables' numbers are in no order.
func thrown(i, most int) api.System {
	d := dice(i)
	count, in := d.below(most+1), 1+d.below(3)
	s := api.System{Vars: numbers(count + in)}
	names := upTo(0, count+in)
	for at := range names {
		other := d.below(at + 1)
		names[at], names[other] = names[other], names[at]
	}
	s.In = slices.Clone(names[:in])
	isRow := d.below(2) == 0 // then there is no round, but for what QPre keeps
	for at := in; at < len(names); at++ {
		below := len(names)
		if isRow {
			below = at
		}
		s.Rules = append(s.Rules, thrownRule(&d, names, at, below))
	}
	for at := range s.Rules {
		other := d.below(at + 1)
		s.Rules[at], s.Rules[other] = s.Rules[other], s.Rules[at]
	}
	for range d.below(4) {
		s.Out = append(s.Out, pick(&d, names))
	}
	return s
}

// thrownRule makes the name at that place, and needs names of places below.
func thrownRule(d *dice, names []int, at, below int) api.Rule {
	one := func() int { return names[d.below(below)] }
	out := names[at]
	switch d.below(6) {
	case 0:
		return pre(out, one(), pick(d, names))
	case 1:
		return api.Rule{Op: api.QBin, K: api.KMul, Out: out, A: []int{one(), one()}}
	case 2:
		return api.Rule{Op: api.QCopy, Out: out, A: []int{one()}, E: []api.Push{sca(pick(d, names)), sca(out)}}
	case 3:
		return api.Rule{Op: api.QFoldE, K: api.KAdd, N: 2, Out: out, A: []int{one()}, E: []api.Push{sca(one())}}
	case 4:
		return api.Rule{Op: api.QNum, Out: out, N: int64(d.below(9))}
	}
	return sum(out, one())
}

// P8: systems of many rules, held against the chapter's words.
func TestThrown(t *testing.T) {
	rounds, longest, sorts, changed := 0, 0, 0, 0
	for i := range 20000 {
		s := thrown(i, 14)
		h := holdAgainstSaid(t, fmt.Sprint("thrown ", i), s)
		longest = max(longest, len(h.round))
		switch {
		case len(h.left) > 0:
			rounds++
		case slices.IsSorted(h.order):
			sorts++
		default:
			changed++
		}
	}
	if rounds < 3000 || longest < 6 || sorts < 1000 || changed < 3000 {
		t.Errorf("%d rounds, the longest of %d; %d sorted, %d not", rounds, longest, sorts, changed)
	}
}

// What follows: a system can be sorted, or has a round, never both; sorting what
// is sorted changes nothing; a round is one.
func TestWhatFollows(t *testing.T) {
	for i := range 5000 {
		s := thrown(i, 9)
		sorted, fault := Sort(s)
		round, none := Round(s)
		if none.Code != 0 || (fault.Code == 0) == (len(round) > 0) || fault.Code != 0 && fault.Code != api.ErrRound {
			t.Fatalf("thrown %d: Sort's fault %v, Round %v %v", i, fault, round, none)
		}
		for at, number := range round {
			next := s.Rules[round[(at+1)%len(round)]]
			if !slices.Contains(Needs(s.Rules[number]), next.Out) || slices.Contains(round[:at], number) {
				t.Fatalf("thrown %d: %v is no round, at %d", i, round, at)
			}
		}
		if fault.Code != 0 {
			continue
		}
		again, fault := Sort(sorted)
		wantSame(t, "sorted again", []any{again, fault, Sorted(sorted), Sorted(again)}, []any{sorted, api.Fault{}, true, true})
		if Sorted(s) {
			wantSame(t, "sorted", sorted, s)
		}
	}
}

// P8.2: each rule alone that comes too early is told.
func TestSorted(t *testing.T) {
	isSorted := map[string]bool{
		"0:": true, "0:1": true, "0: 1:0": true, "0:1 1:": false, "0:1 1:2": false, "1:2 0:1": true, "0:0": false, "0<1,0": true, "0<0,1": false,
		"0:3 1:0 2:1": true, "0:3 1:2 2:0": false, "0:2 1: 2:1": false, "0: 1: 2:3 3:": false, "0: 1: 2: 3:2,1,0": true, "0: 1: 2: 3:2,1,0,3": false,
		"0<3,2 1<0,2 2:1": true, "0<1,2 1<3,2 2:1": false, "0:1 1:0": false, "0<2,1 1<2,0": true,
	}
	for text, want := range isSorted {
		wantSame(t, text, Sorted(read(text)), want)
	}
	wantSame(t, "nothing", Sorted(api.System{}), true)
	s := read("0: 1:0 2:1")
	s.Rules[1].Op = 99
	wantSame(t, "no system", Sorted(s), false)
}

// P1: as many rules as there may be: in a row, in a round, and one for all.
func TestMost(t *testing.T) {
	const most = api.MaxRules
	s := api.System{Vars: numbers(most), Out: upTo(0, most)}
	for i := range most - 1 {
		s.Rules = append(s.Rules, sum(i, i+1))
	}
	s.Rules = append(s.Rules, sum(most-1))
	backward := upTo(0, most)
	slices.Reverse(backward)
	wantSorted(t, "a row from its end on", s, backward...)
	s.Rules[most-1] = sum(most-1, 0)
	wantRound(t, "a round of all", s, 0, upTo(0, most)...)
	s.Rules[most-1] = sum(most-1, most-1)
	wantRound(t, "all lead to the last one", s, 0, most-1)
	s.Rules[most-1] = pre(most-1, most-1, 0)
	wantRound(t, "all lead to a QPre", s, 0, most-1)
	s.In, s.Rules = []int{most - 1}, s.Rules[:most-1]
	wantSorted(t, "a row from what is In", s, backward[1:]...)
}
