package loop

import (
	"fmt"
	"slices"
	"testing"

	"loomwork/api"
)

// wantTree asks whether steps are a tree for n cells, over ten; that is asked of E of each
// Op that has such a tree, and of F.
func wantTree(t *testing.T, n int, steps []api.Push, isTree bool) {
	t.Helper()
	const cells = 10
	what := fmt.Sprint("for ", n, " cells: ", steps)
	for _, op := range []int{api.LEach, api.LFold, api.LScan} {
		s := stepOf(op, 0, n)
		s.E = steps
		wantStep(t, what, cells, s, isTree)
	}
	if n > 1 {
		return
	}
	single := stepOf(api.LOne, 0, 7)
	single.E = steps
	wantStep(t, what, cells, single, isTree)
	for _, op := range []int{api.LFold, api.LScan} {
		s := stepOf(op, 0, 3)
		s.F = steps
		wantStep(t, what, cells, s, isTree)
	}
}

// P14.1: from 1 to MaxTree steps.
func TestTreeSizes(t *testing.T) {
	for _, n := range []int{1, 3} {
		wantTree(t, n, nil, false)
		wantTree(t, n, []api.Push{}, false)
		wantTree(t, n, tree("1"), true)
		for _, count := range []int{23, 24, 25, 26, 200} {
			wantTree(t, n, append(tree("1"), slices.Repeat(tree("neg"), count-1)...), count <= 24)
		}
		wide := append(tree("1 k add c0 add a0 add 0"), slices.Repeat(tree("1"), 8)...)
		wide = append(append(wide, slices.Repeat(tree("add"), 7)...), tree("sel")...)
		wantSame(t, "steps", len(wide), 24)
		wantTree(t, n, wide, true)
		wantTree(t, n, append(wide, un(api.KNot)), false)
		wantTree(t, n, wide[:23], false)
		deep := append(slices.Repeat(tree("1"), 12), slices.Repeat(tree("add"), 11)...)
		wantTree(t, n, deep, true)
		wantTree(t, n, append(deep, un(api.KNeg)), true)
		wantTree(t, n, append(append(tree("1"), deep...), bin(api.KAdd)), false)
	}
}

// P14.1: steps take no more than there are, and leave one.
func TestStack(t *testing.T) {
	takes := map[string]int{"neg": 1, "not": 1, "add": 2, "less": 2, "xor": 2, "t2,3": 2, "sel": 3}
	for name, count := range takes {
		for lying := range 6 {
			steps := append(slices.Repeat(tree("1"), lying), push(name))
			wantTree(t, 1, steps, lying == count)
			wantTree(t, 3, steps, lying == count)
			for _, more := range []string{"1", "c1", "k", "a2"} {
				wantTree(t, 3, append(steps, push(more)), false)
			}
		}
		back := append([]api.Push{push(name)}, slices.Repeat(tree("1"), count)...)
		wantTree(t, 1, back, false)
		wantTree(t, 1, append(back, push(name)), false)
	}
	for _, text := range []string{"1 add 1", "1 sel 1 1", "neg 1", "1 1 sel", "1 1", "1 2 3", "c0 a0", "1 1 add 1", "1 1 add add 1 1"} {
		wantTree(t, 1, tree(text), false)
	}
	for _, text := range []string{"1 2 add 3 add", "1 2 3 add add", "1 2 3 sel neg", "1 2 3 4 5 sel sel", "1 2 t0,3 3 t0,3", "0 1 2 t0,3 t0,3"} {
		wantTree(t, 1, tree(text), true)
	}
}

// P14.1: a step is one of the eight.
func TestPushOps(t *testing.T) {
	for _, op := range append(upTo(-3, 30), 1<<32, 1<<32+1, greatest, least, least+1) {
		for lying := range 4 {
			p := api.Push{Op: op, K: api.KAdd, V: 1, N: 1}
			if op == api.PUn {
				p.K = api.KNeg
			}
			count, isOne := map[int]int{1: 0, 2: 0, 3: 0, 4: 0, 5: 1, 6: 2, 7: 3, 8: 2}[op]
			wantTree(t, 2, append(slices.Repeat(tree("1"), lying), p), isOne && lying == count)
		}
	}
}

// outside are numbers that are no cells of ten, nor so many of them.
func outside() []int { return []int{-1, -10, 10, 11, 1 << 32, greatest, least} }

// P14.1: PSca's cell, PArr's n cells and PAt's N cells are there.
func TestCellsOfTrees(t *testing.T) {
	for v := range 10 {
		for n := 1; n < 13; n++ {
			isThere := v+n <= 10
			if n <= 10 { // as many cells are made
				wantTree(t, n, []api.Push{sca(v)}, true)
				wantTree(t, n, []api.Push{arr(v)}, isThere)
				wantTree(t, n, append(tree("0 1"), at(v, 10-int64(v))), true)
			}
			wantTree(t, 1, append(tree("0 1"), at(v, int64(n))), isThere)
			wantTree(t, 4, append(tree("0 1"), at(v, int64(n))), isThere)
		}
		for _, n := range []int64{0, -1, -10, 1 << 32, 1<<32 + 1, greatest, greatest - 1, least, least + 1} {
			wantTree(t, 1, append(tree("0 1"), at(v, n)), false)
			wantTree(t, 4, append(tree("0 1"), at(v, n)), false)
		}
	}
	for _, v := range outside() {
		for _, n := range []int{1, 2, 10} {
			wantTree(t, n, []api.Push{sca(v)}, false)
			wantTree(t, n, []api.Push{arr(v)}, false)
			for _, count := range []int64{0, 1, 2, 10, 11, -1, greatest, least} {
				wantTree(t, n, append(tree("0 1"), at(v, count)), false)
			}
		}
	}
	s := one(0, "5999 1 t0,6000")
	wantStep(t, "a PAt of all cells", 6000, s, true)
	s.E[2].N = 6001
	wantStep(t, "a PAt of one more", 6000, s, false)
	s.E[2] = at(1, 6000)
	wantStep(t, "a PAt of all cells, from the next one on", 6000, s, false)
	wantStep(t, "a PAt of more cells than an array has", 6000, fold(api.KAdd, 0, 300, "0", "k 1 t5699,301"), true)
	wantStep(t, "300 cells", 6000, each(0, 300, "a5700"), true)
	wantStep(t, "300 cells, from the next one on", 6000, each(0, 300, "a5701"), false)
}

// P14.1: PIdx: N from -MaxNum to MaxNum.
func TestIndexBounds(t *testing.T) {
	const most = 1000000000000000000
	for _, n := range []int64{0, 1, -1, 1000001, -1000001, 1 << 40, most - 1, most, 1 - most, -most} {
		wantTree(t, 1, []api.Push{idx(n)}, true)
		wantTree(t, 10, []api.Push{idx(n)}, true)
	}
	for _, n := range []int64{most + 1, -most - 1, greatest, least} {
		wantTree(t, 1, []api.Push{idx(n)}, false)
		wantTree(t, 10, []api.Push{idx(n)}, false)
	}
	for _, n := range []int64{0, most, most + 1, -most - 1, greatest, least} {
		wantTree(t, 1, []api.Push{num(n)}, true)
	}
}

// P14.1: PUn: K takes one, PBin: two.
func TestOperatorsOfTrees(t *testing.T) {
	for _, k := range append(upTo(-3, 20), 1<<32, 1<<32+api.KAdd, 1<<32+api.KNeg, greatest, least, least+api.KAdd, least+api.KNot) {
		isUn, isBin := k == 13 || k == 14, k >= 1 && k <= 12
		wantTree(t, 2, append(tree("1"), un(k)), isUn)
		wantTree(t, 2, append(tree("1 2"), bin(k)), isBin)
		wantTree(t, 2, append(tree("1 2"), un(k)), false)
		wantTree(t, 2, append(tree("1"), bin(k)), false)
		wantTree(t, 1, append(tree("1"), un(k)), isUn)
		wantTree(t, 1, append(tree("1 2"), bin(k)), isBin)
	}
}

// P14: fields that a step does not have are not looked at, nor do they change what is
// made.
func TestFieldsOfPushes(t *testing.T) {
	others := []int{-1, 0, 1, 3, 13, 300, 1 << 32, greatest, least}
	l := over(9, "0 1 2 > 3 4 5 6 7 8",
		each(3, 2, "a0 c2 add k add 7 neg mul"),
		one(5, "c0 c1 c2 sel"), one(6, "c0 9 t1,2"), fold(api.KMax, 7, 2, "c1 not", "a0 a1 sub k1 add"))
	rows := [][]int64{{1, 2, 3}, {0, 0, 0}, {-1, 5, 9}, {least, greatest, 2}}
	a := &tale{Loops: l}
	var wants [][]int64
	for _, row := range rows {
		wants = append(wants, a.row(row))
	}
	for _, other := range others {
		changed := copied(l, 0)
		for _, s := range changed.Steps {
			for _, steps := range [][]api.Push{s.E, s.F} {
				for i := range steps {
					changeFields(&steps[i], other)
				}
			}
		}
		m := wantRight(t, fmt.Sprint("others are ", other), changed)
		for i, row := range rows {
			wantTold(t, fmt.Sprint("others are ", other), m, row, wants[i])
		}
	}
}

// changeFields puts a number into all fields that a step does not have.
func changeFields(p *api.Push, other int) {
	if p.Op != api.PUn && p.Op != api.PBin {
		p.K = other
	}
	if p.Op != api.PSca && p.Op != api.PArr && p.Op != api.PAt {
		p.V = other
	}
	if p.Op != api.PNum && p.Op != api.PIdx && p.Op != api.PAt {
		p.N = int64(other)
	}
}

// eachTree hands over all rows of up to so many of the steps.
func eachTree(steps []api.Push, most int, do func(row []api.Push)) {
	var longer func(row []api.Push)
	longer = func(row []api.Push) {
		do(slices.Clone(row))
		if len(row) == most {
			return
		}
		for _, p := range steps {
			longer(append(row, p))
		}
	}
	longer(nil)
}

// P14.1: all short trees, held against the chapter's words.
func TestAllTrees(t *testing.T) {
	few := tree("1 c3 a1 k add neg sel t2,2")
	many := append(few, tree("c4 c-1 a2 a4 a-1 k1000000000000000000 k-1000000000000000001 less xor not t0,4 t0,5 t3,1 t4,1 t0,0 t-1,1 t1,3 t1,4")...)
	many = append(many, api.Push{Op: 0}, api.Push{Op: 9}, un(api.KAdd), bin(api.KNot), un(0), bin(15))
	trees := 0
	ask := func(row []api.Push) {
		for n := 1; n < 4; n++ {
			l := api.Loops{Cells: 4, Steps: []api.Loop{{Op: api.LEach, N: n, E: row}}}
			want := saidFault(l)
			if got := Check(l); got != want {
				t.Fatalf("for %d cells: %v: fault %v, want %v", n, row, got, want)
			}
			if want.Code == 0 {
				trees++
			}
		}
	}
	eachTree(many, 3, ask)
	eachTree(few, 5, ask)
	if trees < 1000 {
		t.Errorf("%d trees alone", trees)
	}
}

// P14.1: all steps of small numbers, held against the chapter's words.
func TestAllSteps(t *testing.T) {
	right := 0
	for _, e := range []string{"1", "a1", "a2", "c3", "c4", "1 1"} {
		for _, f := range []string{"1", "a3", "a4", "", "neg"} {
			for op := 0; op < 6; op++ {
				for n := -1; n < 6; n++ {
					for to := -1; to < 6; to++ {
						for _, k := range []int{0, api.KAdd, api.KXor, api.KNeg, 15} {
							l := api.Loops{Cells: 4, Steps: []api.Loop{{Op: op, K: k, N: n, To: to, F: tree(f), E: tree(e)}}}
							want := saidFault(l)
							if got := Check(l); got != want {
								t.Fatalf("%v: fault %v, want %v", l, got, want)
							}
							if want.Code == 0 {
								right++
							}
						}
					}
				}
			}
		}
	}
	if right < 1000 {
		t.Errorf("%d right ones alone", right)
	}
}
