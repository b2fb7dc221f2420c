package emit

import (
	"fmt"
	"slices"
	"strings"
	"testing"

	"loomwork/api"
)

// part is a tree that ends in one Op, and its code in a loop of so many turns, and in
// none.
type part struct{ name, tree, inLoop, inNone string }

const saidPAt = "load s0 4; load s1 5; num s2 0; less s3 s0 s2; not s3 s3; num s4 3; less s4 s0 s4; and s3 s3 s4; " +
	"move s4 s3; sel s4 s0 s2; loadx s4 s4 6 3; sel s3 s4 s1; move s0 s3"

func parts(turns int) []part {
	return []part{
		{"PNum", "7", "num s0 7", "num s0 7"},
		{"PNum", "-", "num s0 -", "num s0 -"},
		{"PSca", "c4", "load s0 4", "load s0 4"},
		{"PArr", "a4", fmt.Sprint("loadx s0 turn 4 ", turns), "load s0 4"},
		{"PIdx", "k7", "num s0 7; add s0 s0 turn", "num s0 7"},
		{"PIdx", "k", "num s0 0; add s0 s0 turn", "num s0 0"},
		{"PUn", "c4 neg", "load s0 4; neg s0 s0", "load s0 4; neg s0 s0"},
		{"PUn", "k not", "num s0 0; add s0 s0 turn; not s0 s0", "num s0 0; not s0 s0"},
		{"PBin", "c4 c5 sub", "load s0 4; load s1 5; sub s0 s0 s1", "load s0 4; load s1 5; sub s0 s0 s1"},
		{"PBin", "c4 k7 eq", "load s0 4; num s1 7; add s1 s1 turn; eq s0 s0 s1", "load s0 4; num s1 7; eq s0 s0 s1"},
		{"PSel", "c4 c5 c6 sel", "load s0 4; load s1 5; load s2 6; sel s0 s1 s2", "load s0 4; load s1 5; load s2 6; sel s0 s1 s2"},
		{"PSel", "1 2 a4 sel", fmt.Sprint("num s0 1; num s1 2; loadx s2 turn 4 ", turns, "; sel s0 s1 s2"), "num s0 1; num s1 2; load s2 4; sel s0 s1 s2"},
		{"PAt", "c4 c5 t6,3", saidPAt, saidPAt},
	}
}

// regsOf is how many registers code has at least: 3, and one more than it is into.
func regsOf(l []api.Ins) int {
	regs := 3
	for _, i := range l {
		if i.Op != api.IStore && i.Op != api.IStoreX && i.Op != api.IEnd {
			regs = max(regs, i.R+1)
		}
	}
	return regs
}

// wantTree asks for the code of a tree in each place where it can stand: in E of each Op,
// with so many turns, and in F.
func wantTree(t *testing.T, what string, steps []api.Push, turns int, inLoop, inNone []api.Ins) {
	t.Helper()
	const cells = 400
	is := func(place string, s api.Loop, pieces ...[]api.Ins) {
		t.Helper()
		want := slices.Concat(pieces...)
		wantCode(t, fmt.Sprint(what, " in ", place, " of ", turns), cells, s, regsOf(want), want)
	}
	in := func(format string) []api.Ins { return instructions(2, fmt.Sprintf(format, turns)) }
	text := func(s string) []api.Ins { return instructions(2, s) }
	ten := []api.Push{{Op: api.PNum, N: 10}}
	is("LOne", api.Loop{Op: api.LOne, To: 8, E: steps}, inNone, text("store s0 8"))
	is("LEach", api.Loop{Op: api.LEach, N: turns, To: 8, E: steps}, in("loop %d"), inLoop, in("storex s0 turn 8 %d; end"))
	for _, k := range []int{api.KAdd, api.KXor} {
		name := nameOf(k)
		is("E of LFold", api.Loop{Op: api.LFold, K: k, N: turns, To: 8, F: ten, E: steps}, text("num s0 10; move joint s0"), in("loop %d"), inLoop, text(name+" joint joint s0; end; store joint 8"))
		is("E of LScan", api.Loop{Op: api.LScan, K: k, N: turns, To: 8, F: ten, E: steps}, text("num s0 10; move joint s0"), in("loop %d"), inLoop, text(name+" joint joint s0"), in("storex joint turn 8 %d; end"))
		is("F of LFold", api.Loop{Op: api.LFold, K: k, N: turns, To: 8, F: steps, E: ten}, inNone, text("move joint s0"), in("loop %d; num s0 10"), text(name+" joint joint s0; end; store joint 8"))
		is("F of LScan", api.Loop{Op: api.LScan, K: k, N: turns, To: 8, F: steps, E: ten}, inNone, text("move joint s0"), in("loop %d; num s0 10"), text(name+" joint joint s0"), in("storex joint turn 8 %d; end"))
	}
}

// P17.1: each Op of a tree in a loop and in none, by itself: at the bottom of the stack.
func TestOps(t *testing.T) {
	for _, turns := range turnsOf() {
		for _, p := range parts(turns) {
			wantTree(t, p.name, tree(p.tree), turns, instructions(2, p.inLoop), instructions(2, p.inNone))
		}
	}
}

// P17.1: each Op on top of so many others as there may be.
func TestOnTop(t *testing.T) {
	for _, p := range parts(3) {
		deepest := (api.MaxTree - len(tree(p.tree))) / 2
		for others := 1; others <= deepest; others++ {
			ahead, aheadCode := strings.Repeat("9 ", others), []api.Ins{}
			for i := range others {
				aheadCode = append(aheadCode, instructions(2+i, "num s0 9")...)
			}
			behind, behindCode := strings.Repeat("add ", others), []api.Ins{}
			for i := range others {
				behindCode = append(behindCode, instructions(1+others-i, "add s0 s0 s1")...)
			}
			inLoop := slices.Concat(aheadCode, instructions(2+others, p.inLoop), behindCode)
			inNone := slices.Concat(aheadCode, instructions(2+others, p.inNone), behindCode)
			wantTree(t, fmt.Sprint(p.name, " on top of ", others), tree(ahead+p.tree+" "+behind), 3, inLoop, inNone)
		}
	}
}

// P17.1: each Op under each other one, and between two of them, in each place that takes
// something.
func TestUnderOthers(t *testing.T) {
	for _, p := range parts(2) {
		for _, q := range parts(2) {
			inLoop := slices.Concat(instructions(2, p.inLoop), instructions(3, q.inLoop), instructions(2, "sub s0 s0 s1; neg s0 s0"))
			inNone := slices.Concat(instructions(2, p.inNone), instructions(3, q.inNone), instructions(2, "sub s0 s0 s1; neg s0 s0"))
			wantTree(t, p.name+" under "+q.name, tree(p.tree+" "+q.tree+" sub neg"), 2, inLoop, inNone)

			inLoop = slices.Concat(instructions(2, q.inLoop), instructions(3, p.inLoop), instructions(4, q.inLoop), instructions(2, "sel s0 s1 s2"))
			inNone = slices.Concat(instructions(2, q.inNone), instructions(3, p.inNone), instructions(4, q.inNone), instructions(2, "sel s0 s1 s2"))
			wantTree(t, p.name+" between "+q.name, tree(q.tree+" "+p.tree+" "+q.tree+" sel"), 2, inLoop, inNone)
		}
	}
}

// P17.1: each operator.
func TestOperators(t *testing.T) {
	for k := api.KAdd; k <= api.KXor; k++ {
		want := instructions(2, "load s0 1; load s1 2; "+nameOf(k)+" s0 s0 s1")
		wantTree(t, nameOf(k), tree("c1 c2 "+nameOf(k)), 2, want, want)
	}
	for _, k := range []int{api.KNeg, api.KNot} {
		want := instructions(2, "load s0 1; "+nameOf(k)+" s0 s0")
		wantTree(t, nameOf(k), tree("c1 "+nameOf(k)), 2, want, want)
	}
}

// P17.1: numbers and cells at their bounds.
func TestBounds(t *testing.T) {
	for _, n := range append(someNumbers(), api.MaxNum, -api.MaxNum) {
		want := []api.Ins{{Op: api.INum, R: 2, N: n}}
		wantTree(t, fmt.Sprint("PNum ", n), []api.Push{{Op: api.PNum, N: n}}, 2, want, want)
	}
	for _, n := range []int64{0, 1, -1, api.MaxNum, -api.MaxNum, api.MaxNum - 1, 1 << 32} {
		want := []api.Ins{{Op: api.INum, R: 2, N: n}}
		more := append(slices.Clone(want), api.Ins{Op: api.IBin, K: api.KAdd, R: 2, A: 2})
		wantTree(t, fmt.Sprint("PIdx ", n), []api.Push{{Op: api.PIdx, N: n}}, 2, more, want)
	}
	for _, cell := range []int{0, 1, 100, 399} {
		want := instructions(2, fmt.Sprint("load s0 ", cell))
		wantTree(t, fmt.Sprint("PSca ", cell), tree(fmt.Sprint("c", cell)), 2, want, want)
	}
	for _, n := range turnsOf() {
		for _, first := range []int{0, 1, 400 - n} {
			want := instructions(2, fmt.Sprint("loadx s0 turn ", first, " ", n))
			wantTree(t, fmt.Sprint("PArr ", first), tree(fmt.Sprint("a", first)), n, want, instructions(2, fmt.Sprint("load s0 ", first)))
		}
	}
}

// P17.1: trees of as many steps as there may be.
func TestLongTrees(t *testing.T) {
	want := append(instructions(2, "load s0 1"), slices.Repeat(instructions(2, "neg s0 s0"), 23)...)
	wantTree(t, "23 PUn", tree("c1"+strings.Repeat(" neg", 23)), 3, want, want)

	want = instructions(2, "load s0 1; neg s0 s0")
	for range 11 {
		want = append(want, instructions(2, "num s1 5; sub s0 s0 s1")...)
	}
	wantTree(t, "11 PBin from the front", tree("c1 neg"+strings.Repeat(" 5 sub", 11)), 3, want, want)

	want = nil
	for i := range 12 {
		want = append(want, instructions(2+i, "num s0 5")...)
	}
	want = append(want, instructions(13, "neg s0 s0")...)
	for i := range 11 {
		want = append(want, instructions(12-i, "sub s0 s0 s1")...)
	}
	wantTree(t, "11 PBin from behind", tree(strings.Repeat("5 ", 12)+"neg"+strings.Repeat(" sub", 11)), 3, want, want)

	want = nil
	for i := range 16 {
		want = append(want, instructions(2+i, "num s0 5")...)
	}
	for i := range 7 {
		want = append(want, instructions(15-2*i, "sel s0 s1 s2")...)
	}
	want = append(want, instructions(2, "add s0 s0 s1")...)
	wantTree(t, "7 PSel", tree(strings.Repeat("5 ", 16)+strings.Repeat("sel ", 7)+"add"), 3, want, want)
}

// pushesOfAllKinds are one of each Op.
func pushesOfAllKinds() []api.Push { return tree("7 c1 a2 k3 neg sub sel t2,3") }

// P17.1: all trees of up to five steps of each Op, in each place, held against the
// chapter's words.
func TestAllTrees(t *testing.T) {
	count := 0
	var grow func(steps []api.Push, height int)
	grow = func(steps []api.Push, height int) {
		if height == 1 {
			count++
			ten := tree("10")
			l := over(9, "1 > 2",
				api.Loop{Op: api.LOne, To: 3, E: steps},
				api.Loop{Op: api.LEach, N: 2, To: 4, E: steps},
				api.Loop{Op: api.LFold, K: api.KAdd, N: 2, To: 5, F: ten, E: steps},
				api.Loop{Op: api.LScan, K: api.KMax, N: 2, To: 6, F: steps, E: ten})
			holdAgainstSaid(t, "a tree", l, []int{1})
		}
		for _, p := range pushesOfAllKinds() {
			if len(steps) < 5 && height >= takenAs(p) {
				grow(append(slices.Clone(steps), p), height-takenAs(p)+1)
			}
		}
	}
	grow(nil, 0)
	if count < 1000 {
		t.Errorf("%d trees alone", count)
	}
}
