package emit

import (
	"fmt"
	"slices"
	"testing"

	"loomwork/api"
)

// anyNumber is a number of whatever kind.
func anyNumber(d *dice) int {
	if d.below(4) > 0 {
		return d.below(16)
	}
	return pick(d, []int{-1, -2, 300, 301, 400, 5999, 6000, 6001, 1 << 32, 1<<32 + 1, greatest, greatest - 1, least, least + 1})
}

func anyInts(d *dice) []int {
	var list []int
	for range d.below(4) {
		list = append(list, anyNumber(d))
	}
	return list
}

func anySteps(d *dice) []api.Push {
	var steps []api.Push
	for range d.below(5) {
		steps = append(steps, api.Push{Op: anyNumber(d), K: anyNumber(d), V: anyNumber(d), N: int64(anyNumber(d))})
	}
	return steps
}

// anything are loops of whatever numbers, with lists that may be nil.
func anything(d *dice) api.Loops {
	l := api.Loops{Cells: anyNumber(d), Put: anyInts(d), Get: anyInts(d)}
	for range d.below(4) {
		l.Steps = append(l.Steps, api.Loop{Op: anyNumber(d), K: anyNumber(d), N: anyNumber(d), To: anyNumber(d), F: anySteps(d), E: anySteps(d)})
	}
	return l
}

// slip puts some number at one place of loops, or takes a tree's step away, or puts one in.
func slip(d *dice, l *api.Loops) {
	number := pick(d, append(upTo(-1, l.Cells+2), 299, 300, 301, 6000, 6001, 1<<32, greatest, least))
	places := []*int{&l.Cells}
	for _, list := range [][]int{l.Put, l.Get} {
		for i := range list {
			places = append(places, &list[i])
		}
	}
	for i := range l.Steps {
		s := &l.Steps[i]
		places = append(places, &s.Op, &s.K, &s.N, &s.To)
		for _, steps := range [][]api.Push{s.E, s.F} {
			for j := range steps {
				places = append(places, &steps[j].Op, &steps[j].K, &steps[j].V)
			}
		}
	}
	if len(l.Steps) == 0 || d.below(3) > 0 {
		*pick(d, places) = number
		return
	}
	s := &l.Steps[d.below(len(l.Steps))]
	steps := pick(d, []*[]api.Push{&s.E, &s.F})
	switch at := d.below(len(*steps)); d.below(3) {
	case 0:
		(*steps)[at].N = int64(number)
	case 1:
		*steps = slices.Delete(*steps, at, at+1)
	case 2:
		*steps = slices.Insert(*steps, at, thrownPush(d, max(1, min(l.Cells, 9)), 1))
	}
}

// P1: no call panics, whatever it is given; what is told is what the chapter's words say.
func TestAnything(t *testing.T) {
	d := dice(7)
	codes := map[int]int{}
	for i := range 60000 {
		a := asked{anything(&d), anyInts(&d)}
		if i%4 > 0 {
			l := thrown(i/4, 4)
			a = asked{l, thrownBools(&d, l)}.copied(0)
		}
		if i%4 > 1 {
			slip(&d, &a.Loops)
		} else if i%4 == 1 {
			a.bools = append(a.bools, anyNumber(&d))
		}
		kept := plain(a)
		codes[holdAgainstSaid(t, fmt.Sprint("thrown ", i), a.Loops, a.bools)]++
		if plain(a) != kept || t.Failed() {
			t.Fatalf("thrown %d: %v, it was %v", i, a, kept)
		}
	}
	for _, k := range []int{0, api.ErrSize, api.ErrRange, api.ErrForm} {
		if codes[k] < 2000 {
			t.Errorf("the code %d was told %d times alone", k, codes[k])
		}
	}
}

// P1: every call ends: lists that are long.
func TestEndless(t *testing.T) {
	long := make([]int, 1<<22)
	steps := slices.Repeat(tree("c0"), 1<<20)
	wantFault(t, "Put", api.Loops{Cells: 1, Put: long}, nil, api.ErrMany, -1)
	wantFault(t, "Get", api.Loops{Cells: 1, Get: long}, nil, api.ErrMany, -1)
	wantFault(t, "bools", api.Loops{Cells: 1}, long, api.ErrMany, -1)
	wantFault(t, "steps", api.Loops{Cells: 1, Steps: make([]api.Loop, 1<<18)}, nil, api.ErrMany, -1)
	wantFault(t, "E", api.Loops{Cells: 1, Steps: []api.Loop{{Op: api.LOne, E: steps}}}, nil, api.ErrForm, 0)
	wantFault(t, "F", api.Loops{Cells: 1, Steps: []api.Loop{{Op: api.LFold, K: api.KAdd, N: 1, E: tree("1"), F: steps}}}, nil, api.ErrForm, 0)
	single, all := one(0, "c0 1 add"), each(0, 1, "a0 1 add")
	single.F, all.F = steps, steps
	l := over(1, "> 0", slices.Repeat([]api.Loop{single, all}, 600)...)
	wantRun(t, "F of steps that have none", l, [][]int64{nil, nil})
}

// P1: as much as there may be of all.
func TestFull(t *testing.T) {
	l := api.Loops{Cells: 6000, Put: upTo(0, 6000), Get: slices.Repeat(upTo(0, 6000), 20)}
	for i := range 400 {
		from := 300 * (i % 20)
		l.Steps = append(l.Steps,
			each(from, 300, fmt.Sprintf("a%d k t0,6000 k add", from)),
			scan(api.KMax, from, 300, fmt.Sprintf("c%d neg", from), fmt.Sprintf("a%d", from)),
			api.Loop{Op: api.LFold, K: api.KAdd, N: 300, To: from, F: tree("1"), E: deepPlace(16)})
	}
	holdAgainstSaid(t, "full", l, l.Put)
	row := make([]int64, 6000)
	for i := range row {
		row[i] = int64(i * i % 7001)
	}
	l.Steps = l.Steps[:90]
	wantRun(t, "full", l, [][]int64{row, row})
}

// Lists may be nil or empty, and are the same either way.
func TestEmptyLists(t *testing.T) {
	for _, empty := range [][]int{nil, {}} {
		for _, none := range [][]api.Loop{nil, {}} {
			wantSame(t, "empty", made(t, "empty", api.Loops{Cells: 2, Put: empty, Get: empty, Steps: none}, empty...), api.Image{Cells: 2, Regs: 3})
		}
	}
	for _, empty := range [][]api.Push{nil, {}} {
		wantFault(t, "E", api.Loops{Cells: 1, Steps: []api.Loop{{Op: api.LOne, E: empty}}}, nil, api.ErrForm, 0)
		wantFault(t, "F", api.Loops{Cells: 1, Steps: []api.Loop{{Op: api.LFold, K: 1, N: 1, F: empty, E: tree("1")}}}, nil, api.ErrForm, 0)
		wantCode(t, "F of an LOne", 1, api.Loop{Op: api.LOne, F: empty, E: tree("3")}, 3, instructions(2, "num s0 3; store s0 0"))
	}
	wantFault(t, "nothing at all", api.Loops{}, nil, api.ErrSize, -1)
}
