package build

import (
	"fmt"
	"slices"
	"testing"

	"loomwork/api"
)

// variables of treesOf: numbers, truths, and arrays, and where they lie. What is made is
// the last one.
const (
	varsOfTrees   = "i b i3 b3 i300 i1"
	placesOfTrees = "20 21 30 40 1000 60"
)

// wantTree asks what a tree becomes in a rule that makes a thing of that type.
func wantTree(t *testing.T, what string, out string, steps, want []api.Push) {
	t.Helper()
	s := with(varsOfTrees+" "+out, api.Rule{Op: api.QEach, Out: 6, E: steps})
	p := lying(2000, placesOfTrees+" 1500 > -1")
	step := api.Loop{Op: api.LOne, To: 1500, E: want}
	if n := s.Vars[6].N; n > 0 {
		step.Op, step.N = api.LEach, n
	}
	wantSteps(t, fmt.Sprintf("%s, %s", what, out), s, p, step)
}

// wantRead is wantTree of what tree reads.
func wantRead(t *testing.T, out, steps, want string) {
	t.Helper()
	wantTree(t, steps, out, tree(steps), tree(want))
}

// P15.1: PNum becomes a PNum with N alone, of numbers and of truths.
func TestNum(t *testing.T) {
	for _, n := range []int64{0, 1, -1, 5, least, greatest} {
		for _, out := range []string{"i", "i1", "i2", "i300"} {
			wantTree(t, "a number", out, []api.Push{num(n)}, []api.Push{num(n)})
		}
	}
	for n := range int64(2) {
		for _, out := range []string{"b", "b1", "b2", "b300"} {
			wantTree(t, "a truth", out, []api.Push{truth(n)}, []api.Push{num(n)})
		}
	}
}

// P15.1: PSca becomes the cell where the variable lies.
func TestSca(t *testing.T) {
	for _, n := range []string{"", "1", "2", "300"} {
		wantRead(t, "i"+n, "s0", "s20")
		wantRead(t, "b"+n, "s1", "s21")
	}
}

// P15.1: PArr becomes PArr of the cell N on, with N 0; of a scalar PSca.
func TestArr(t *testing.T) {
	wantRead(t, "i1", "a2", "a30")
	wantRead(t, "i1", "a2+1", "a31")
	wantRead(t, "i1", "a2+2", "a32")
	wantRead(t, "b2", "a3", "a40")
	wantRead(t, "b2", "a3+1", "a41")
	wantRead(t, "i3", "a2", "a30")
	wantRead(t, "i1", "a5", "a60")
	wantRead(t, "i300", "a4", "a1000")
	wantRead(t, "i299", "a4+1", "a1001")
	wantRead(t, "i1", "a4+299", "a1299")
	wantRead(t, "i", "a2", "s30")
	wantRead(t, "i", "a2+1", "s31")
	wantRead(t, "i", "a2+2", "s32")
	wantRead(t, "b", "a3+2", "s42")
	wantRead(t, "i", "a5", "s60")
	wantRead(t, "i", "a4", "s1000")
	wantRead(t, "i", "a4+299", "s1299")
}

// P15.1: PAt gets the variable's cells as N, whatever is made of it.
func TestAt(t *testing.T) {
	for _, out := range []string{"i", "i1", "i2", "i300"} {
		wantRead(t, out, "7 8 t2", "7 8 t30,3")
		wantRead(t, out, "7 8 t4", "7 8 t1000,300")
		wantRead(t, out, "7 8 t5", "7 8 t60,1")
		wantRead(t, out, "s0 neg s0 t5", "s20 neg s20 t60,1")
	}
	for _, out := range []string{"b", "b1", "b2", "b300"} {
		wantRead(t, out, "-1 true t3", "-1 1 t40,3")
		wantRead(t, out, "9 s1 t3", "9 s21 t40,3")
	}
	wantRead(t, "i3", "k a2 t5", "k a30 t60,1")
	wantRead(t, "i", "k a2 t5", "0 s30 t60,1")
	wantRead(t, "i", "a5 1 t5", "s60 1 t60,1")
}

// P15.1: PIdx stays; of a scalar it becomes a PNum with its N. At its bounds, and beyond.
func TestIdx(t *testing.T) {
	for _, n := range []int64{0, 1, -1, 299, 300, 1000000, -1000000} {
		for _, out := range []string{"i1", "i2", "i300"} {
			wantTree(t, "an index", out, []api.Push{idx(n)}, []api.Push{idx(n)})
		}
		wantTree(t, "an index of a scalar", "i", []api.Push{idx(n)}, []api.Push{num(n)})
	}
	for _, n := range []int64{1000001, -1000001, least, greatest} {
		for _, out := range []string{"i", "i1", "i300"} {
			s := with(varsOfTrees+" "+out, api.Rule{Op: api.QEach, Out: 6, E: []api.Push{idx(n)}})
			wantFault(t, "an index beyond", s, lying(2000, placesOfTrees+" 1500 > -1"), api.ErrType, 0)
		}
	}
}

// P15.1: all other steps stay as they are.
func TestOperators(t *testing.T) {
	for _, out := range []string{"i", "i1", "i300"} {
		for _, name := range []string{"add", "sub", "mul", "div", "mod", "min", "max"} {
			wantRead(t, out, "s0 2 "+name, "s20 2 "+name)
		}
		wantRead(t, out, "s0 neg", "s20 neg")
		wantRead(t, out, "s1 2 s0 sel", "s21 2 s20 sel")
	}
	for _, out := range []string{"b", "b1", "b300"} {
		for _, name := range []string{"and", "or", "xor"} {
			wantRead(t, out, "s1 true "+name, "s21 1 "+name)
		}
		for _, name := range []string{"less", "eq"} {
			wantRead(t, out, "s0 2 "+name, "s20 2 "+name)
		}
		wantRead(t, out, "s1 not", "s21 not")
		wantRead(t, out, "s1 false s1 sel", "s21 0 s21 sel")
	}
}

// P15.1: steps stand in their order; a tree may be as long as trees are.
func TestLongTrees(t *testing.T) {
	wantRead(t, "i3", "a2 s0 mul k1 add 4 neg sub 2 s0 t2 max", "a30 s20 mul k1 add 4 neg sub 2 s20 t30,3 max")
	wantRead(t, "i", "a2 s0 mul k1 add 4 neg sub 2 s0 t2 max", "s30 s20 mul 1 add 4 neg sub 2 s20 t30,3 max")
	wantRead(t, "i2", "true a3+1 and a2 a2+1 sel", "1 a41 and a30 a31 sel")
	long := slices.Concat(tree("a5"), slices.Repeat(tree("a5"), 11), slices.Repeat(tree("add"), 11), tree("neg"))
	over := slices.Concat(tree("a60"), slices.Repeat(tree("a60"), 11), slices.Repeat(tree("add"), 11), tree("neg"))
	wantSame(t, "how long", len(long), api.MaxTree)
	wantTree(t, "long", "i1", long, over)
	for i := range over[:12] {
		over[i] = sca(60)
	}
	wantTree(t, "long", "i", long, over)
}

// P15.1: fields that a step does not have, and that are not named, are zero; steps that
// stay stay whole.
func TestFieldsOfSteps(t *testing.T) {
	strange := api.Push{K: 77, V: -5, N: 99}
	like := func(op int, change func(p *api.Push)) api.Push {
		p := strange
		p.Op = op
		change(&p)
		return p
	}
	number := like(api.PNum, func(p *api.Push) { p.K = 0 })
	isTrue := like(api.PNum, func(p *api.Push) { p.K, p.N = 1, 1 })
	scalar := like(api.PSca, func(p *api.Push) { p.V = 0 })
	array := like(api.PArr, func(p *api.Push) { p.V, p.N = 2, 1 })
	index := like(api.PIdx, func(p *api.Push) {})
	place := like(api.PAt, func(p *api.Push) { p.V = 2 })
	negate := like(api.PUn, func(p *api.Push) { p.K = api.KNeg })
	plus := like(api.PBin, func(p *api.Push) { p.K = api.KAdd })
	choice := like(api.PSel, func(p *api.Push) {})
	steps := []api.Push{isTrue, number, scalar, plus, array, index, place, choice, negate}
	wantTree(t, "of an array", "i2", steps, []api.Push{num(1), num(99), sca(20), plus, arr(31, 0), index, at(30, 3), choice, negate})
	wantTree(t, "of a scalar", "i", steps, []api.Push{num(1), num(99), sca(20), plus, sca(31), num(99), at(30, 3), choice, negate})
	s := with("i i3 i i2", foldE(api.KAdd, 2, 2, 0, ""), scanE(api.KAdd, 3, 0, ""))
	s.Rules[0].E = []api.Push{scalar, array, plus}
	s.Rules[0].E[1].V = 1
	s.Rules[1].E = []api.Push{scalar, index, plus, negate}
	wantSteps(t, "of folds", s, lying(9, "1 2 5 6 > -1 -1"),
		api.Loop{Op: api.LFold, K: api.KAdd, N: 2, To: 5, F: tree("s1"), E: []api.Push{sca(1), arr(3, 0), plus}},
		api.Loop{Op: api.LScan, K: api.KAdd, N: 2, To: 6, F: tree("s1"), E: []api.Push{sca(1), index, plus, negate}})
}
