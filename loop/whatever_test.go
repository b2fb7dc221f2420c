package loop

import (
	"fmt"
	"slices"
	"testing"

	"loomwork/api"
)

// anyNumber is a number of whatever kind.
func anyNumber(d *dice) int {
	if d.below(4) > 0 {
		return d.below(16)
	}
	return pick(d, []int{-1, -2, 300, 301, 400, 5999, 6000, 6001, 1 << 32, 1<<32 + 1, greatest, greatest - 1, least, least + 1})
}

func anyInts(d *dice) []int {
	var list []int
	for range d.below(4) {
		list = append(list, anyNumber(d))
	}
	return list
}

func anySteps(d *dice) []api.Push {
	var steps []api.Push
	for range d.below(5) {
		steps = append(steps, api.Push{Op: anyNumber(d), K: anyNumber(d), V: anyNumber(d), N: int64(anyNumber(d))})
	}
	return steps
}

// anything are loops of whatever numbers, with lists that may be nil.
func anything(d *dice) api.Loops {
	l := api.Loops{Cells: anyNumber(d), Put: anyInts(d), Get: anyInts(d)}
	for range d.below(4) {
		l.Steps = append(l.Steps, api.Loop{Op: anyNumber(d), K: anyNumber(d), N: anyNumber(d), To: anyNumber(d), F: anySteps(d), E: anySteps(d)})
	}
	return l
}

// slip puts some number at one place of loops, or takes a step away, or puts one in.
func slip(d *dice, l *api.Loops) {
	number := pick(d, append(upTo(-1, l.Cells+2), 299, 300, 301, 6000, 6001, 1<<32, greatest, least))
	places := []*int{&l.Cells}
	for _, list := range [][]int{l.Put, l.Get} {
		for i := range list {
			places = append(places, &list[i])
		}
	}
	for i := range l.Steps {
		s := &l.Steps[i]
		places = append(places, &s.Op, &s.K, &s.N, &s.To)
		for _, steps := range [][]api.Push{s.E, s.F} {
			for j := range steps {
				places = append(places, &steps[j].Op, &steps[j].K, &steps[j].V)
			}
		}
	}
	if len(l.Steps) == 0 || d.below(3) > 0 {
		*pick(d, places) = number
		return
	}
	s := &l.Steps[d.below(len(l.Steps))]
	steps := pick(d, []*[]api.Push{&s.E, &s.F})
	switch at := d.below(len(*steps)); d.below(3) {
	case 0:
		(*steps)[at].N = int64(number)
	case 1:
		*steps = slices.Delete(*steps, at, at+1)
	case 2:
		*steps = slices.Insert(*steps, at, thrownPush(d, max(1, min(l.Cells, 9)), 1))
	}
}

// P1: no call panics, whatever it is given; what is told is what the chapter's words say.
func TestAnything(t *testing.T) {
	d := dice(7)
	faults := map[int]int{}
	for i := range 60000 {
		l := anything(&d)
		if i%3 > 0 {
			l = copied(thrown(i/3, 4), 0)
			slip(&d, &l)
		}
		kept := plain(l)
		want := saidFault(l)
		faults[want.Code]++
		if want.Code != 0 {
			wantFault(t, fmt.Sprint("thrown ", i), l, want.Code, want.At)
		} else if l.Cells < 400 {
			wantWhateverRows(t, &d, l)
		}
		if plain(l) != kept || t.Failed() {
			t.Fatalf("thrown %d: %v, it was %v", i, l, kept)
		}
	}
	for _, code := range []int{0, api.ErrSize, api.ErrRange, api.ErrForm} {
		if faults[code] < 2000 {
			t.Errorf("the code %d was told %d times alone", code, faults[code])
		}
	}
}

// wantWhateverRows gives rows of whatever numbers, and holds what is told of those that
// are rows against the chapter's words.
func wantWhateverRows(t *testing.T, d *dice, l api.Loops) {
	t.Helper()
	m, a := wantRight(t, "whatever", l), &tale{Loops: l}
	if m == nil {
		return
	}
	for range 3 {
		var row []int64
		for range pick(d, []int{len(l.Put), len(l.Put), d.below(9)}) {
			row = append(row, pick(d, someNumbers()))
		}
		if len(row) != len(l.Put) {
			wantWrong(t, "whatever", m, row)
			continue
		}
		wantTold(t, "whatever", m, row, a.row(row))
		wantSame(t, "whatever: cells", m.Cells(), a.cells())
	}
}

// P1: every call ends: lists that are long.
func TestEndless(t *testing.T) {
	long := make([]int, 1<<22)
	steps := slices.Repeat(tree("c0"), 1<<20)
	wantFault(t, "Put", api.Loops{Cells: 1, Put: long}, api.ErrMany, -1)
	wantFault(t, "Get", api.Loops{Cells: 1, Get: long}, api.ErrMany, -1)
	wantFault(t, "steps", api.Loops{Cells: 1, Steps: make([]api.Loop, 1<<18)}, api.ErrMany, -1)
	wantFault(t, "E", api.Loops{Cells: 1, Steps: []api.Loop{{Op: api.LOne, E: steps}}}, api.ErrForm, 0)
	wantFault(t, "F", api.Loops{Cells: 1, Steps: []api.Loop{{Op: api.LFold, K: api.KAdd, N: 1, E: tree("1"), F: steps}}}, api.ErrForm, 0)
	single, all := one(0, "c0 1 add"), each(0, 1, "a0 1 add")
	single.F, all.F = steps, steps
	l := over(1, "> 0", single, all)
	l.Steps = slices.Repeat(l.Steps, 600)
	wantRows(t, "F of steps that have none", l, "> 1200", "> 2400")
}

// P1: as many steps as there may be, each as long and as deep as it may be.
func TestFull(t *testing.T) {
	counts := append(tree("a0"), append(slices.Repeat(tree("1"), 11), slices.Repeat(tree("add"), 11)...)...)
	wantSame(t, "steps of a tree", len(counts), 23)
	counts = append(counts, un(api.KNeg))
	l := api.Loops{Cells: 6000, Get: []int{0, 299, 300, 599, 5999}}
	for i := range 400 {
		from := 300 * (i % 20)
		l.Steps = append(l.Steps,
			api.Loop{Op: api.LEach, N: 300, To: from, E: append(tree("a0"), counts[1:]...)},
			api.Loop{Op: api.LEach, N: 300, To: from, E: tree("a0 neg")},
			api.Loop{Op: api.LScan, K: api.KMax, N: 300, To: from, F: []api.Push{sca(from)}, E: []api.Push{arr(from)}})
		for j := range 2 {
			l.Steps[3*i+j].E[0] = arr(from)
		}
	}
	wantRows(t, "full", l, "> 220 220 220 220 220", "> 440 440 440 440 440")
}

// Lists may be nil or empty, and are the same either way.
func TestEmptyLists(t *testing.T) {
	for _, empty := range [][]int{nil, {}} {
		wantRows(t, "Put", api.Loops{Cells: 1, Put: empty, Get: []int{0}}, "> 0")
		wantRows(t, "Get", api.Loops{Cells: 1, Put: []int{0}, Get: empty}, "5 >")
	}
	for _, empty := range [][]api.Loop{nil, {}} {
		wantRows(t, "steps", api.Loops{Cells: 1, Get: []int{0}, Steps: empty}, "> 0")
	}
	for _, empty := range [][]api.Push{nil, {}} {
		wantFault(t, "E", api.Loops{Cells: 1, Steps: []api.Loop{{Op: api.LOne, E: empty}}}, api.ErrForm, 0)
		wantFault(t, "F", api.Loops{Cells: 1, Steps: []api.Loop{{Op: api.LFold, K: 1, N: 1, F: empty, E: tree("1")}}}, api.ErrForm, 0)
		wantRows(t, "F of an LOne", api.Loops{Cells: 1, Get: []int{0}, Steps: []api.Loop{{Op: api.LOne, F: empty, E: tree("3")}}}, "> 3")
	}
	m := begun(t, api.Loops{Cells: 1, Get: []int{0}})
	for _, empty := range [][]int64{nil, {}} {
		wantTold(t, "a row", m, empty, []int64{0})
	}
}
