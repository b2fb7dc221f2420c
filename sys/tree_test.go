package sys

import (
	"fmt"
	"slices"
	"testing"

	"loomwork/api"
	"loomwork/kinds"
)

// treeVars are the variables that trees of these tests name, behind Out, which is
// 0: 1 a number, 2 a truth, 3 and 4 arrays of five of them.
const treeVars = " i b i5 b5"

// wantTree asks what steps make in each of the cells of Out: 'i' or 'b'; or 'x':
// they are no tree.
func wantTree(t *testing.T, size string, want byte, steps ...api.Push) {
	t.Helper()
	for _, elem := range []byte("ib") {
		wantFit(t, string(elem)+size+treeVars, api.Rule{Op: api.QEach, E: steps}, elem == want)
	}
}

// P7.1: PNum: K 0 a number, K 1 a truth, no other K.
func TestTreeNum(t *testing.T) {
	for _, n := range []int64{0, 1, -1, 2, 256, 1 << 32, 1<<32 + 1, api.MaxNum, greatest, least} {
		wantTree(t, "", 'i', num(n))
		isTruth := byte('x')
		if n == 0 || n == 1 {
			isTruth = 'b'
		}
		wantTree(t, "", isTruth, truthOf(n))
		for _, k := range []int{-1, 2, 3, 255, 256, 257, 1 << 32, 1<<32 + 1, greatest, least} {
			wantTree(t, "", 'x', api.Push{Op: api.PNum, K: k, N: n})
		}
	}
}

// P7.1: PSca is of a scalar, PArr and PAt of an array.
func TestTreeVariables(t *testing.T) {
	for _, size := range []string{"", "1", "5"} {
		wantTree(t, size, 'i', sca(1))
		wantTree(t, size, 'b', sca(2))
		wantTree(t, size, 'x', sca(3))
		wantTree(t, size, 'x', sca(4))
		wantTree(t, size, 'x', arr(1, 0))
		wantTree(t, size, 'x', arr(2, 0))
		wantTree(t, size, 'i', arr(3, 0))
		wantTree(t, size, 'b', arr(4, 0))
		wantTree(t, size, 'x', num(0), num(0), at(1))
		wantTree(t, size, 'x', num(0), truthOf(0), at(2))
		wantTree(t, size, 'i', num(0), num(0), at(3))
		wantTree(t, size, 'b', num(0), truthOf(0), at(4))
	}
}

// P7.1: PArr: N from 0 to how many more cells it has than there are.
func TestTreeArr(t *testing.T) {
	for cells := 1; cells <= 7; cells++ {
		for _, n := range []int64{-2, -1, 0, 1, 2, 3, 4, 5, 6, 7, 1 << 32, 1<<32 + 1, -1 << 32, greatest, greatest - 5, least, least + 5} {
			number, truth := byte('x'), byte('x')
			if n >= 0 && n <= int64(5-cells) {
				number, truth = 'i', 'b'
			}
			wantTree(t, fmt.Sprint(cells), number, arr(3, n))
			wantTree(t, fmt.Sprint(cells), truth, arr(4, n))
			if cells == 1 {
				wantTree(t, "", number, arr(3, n))
			}
			fold := api.Rule{Op: api.QFoldE, K: api.KAdd, N: int64(cells), E: []api.Push{arr(2, n)}}
			wantFit(t, "i i i5", fold, number == 'i')
		}
	}
	wantFit(t, "i300 i300", each(0, arr(1, 0)), true)
	wantFit(t, "i300 i300", each(0, arr(1, 1)), false)
	wantFit(t, "i1 i300", each(0, arr(1, 299)), true)
	wantFit(t, "i1 i300", each(0, arr(1, 300)), false)
}

// P7.1: PIdx: N from -1000000 to 1000000.
func TestTreeIdx(t *testing.T) {
	for _, n := range []int64{0, 1, -1, 300, 999999, 1000000, -999999, -1000000} {
		wantTree(t, "", 'i', idx(n))
		wantTree(t, "300", 'i', idx(n))
	}
	for _, n := range []int64{1000001, -1000001, 1000002, 1 << 32, -1 << 32, greatest, least} {
		wantTree(t, "", 'x', idx(n))
		wantTree(t, "300", 'x', idx(n))
	}
}

// P7.1: PUn, PBin: what K takes, of the stack's top, and as many.
func TestTreeOperators(t *testing.T) {
	for _, k := range append(upTo(-2, 20), 1<<32+api.KAdd, greatest, least) {
		takes, makes, n := kinds.Op(k)
		for a := 1; a <= 2; a++ {
			isA := "ib"[a-1] == takes
			one := byte('x')
			if isA && n == 1 {
				one = makes
			}
			wantTree(t, "3", one, sca(a), un(k))
			for b := 1; b <= 2; b++ {
				isB := "ib"[b-1] == takes
				two := byte('x')
				if isA && isB && n == 2 {
					two = makes
				}
				wantTree(t, "3", two, sca(a), sca(b), bin(k))
				wantTree(t, "3", 'x', sca(a), sca(b), un(k))
			}
			wantTree(t, "3", 'x', sca(a), bin(k))
		}
		wantTree(t, "3", 'x', un(k))
		wantTree(t, "3", 'x', bin(k))
	}
}

// P7.1: an operator takes the top, and leaves what lies below.
func TestTreeTop(t *testing.T) {
	wantTree(t, "", 'b', sca(2), sca(1), un(api.KNeg), sca(1), bin(api.KLess), bin(api.KAnd))
	wantTree(t, "", 'x', sca(1), sca(2), un(api.KNeg), bin(api.KAdd))
	wantTree(t, "", 'b', sca(1), sca(1), sca(1), bin(api.KMul), bin(api.KEq), un(api.KNot))
	wantTree(t, "", 'x', sca(1), sca(1), bin(api.KEq), sca(1), bin(api.KAdd))
}

// P7.1: PSel: a truth below, and two of one Elem above it.
func TestTreeSel(t *testing.T) {
	for a := 1; a <= 2; a++ {
		for b := 1; b <= 2; b++ {
			for c := 1; c <= 2; c++ {
				want := byte('x')
				if a == 2 && b == c {
					want = "ib"[b-1]
				}
				wantTree(t, "3", want, sca(a), sca(b), sca(c), sel())
				wantTree(t, "3", 'x', sca(2), sca(a), sca(b), sca(c), sel())
			}
			wantTree(t, "3", 'x', sca(a), sca(b), sel())
		}
		wantTree(t, "3", 'x', sca(a), sel())
	}
	wantTree(t, "3", 'x', sel())
	wantTree(t, "3", 'i', sca(1), sca(2), sca(1), sca(1), sel(), bin(api.KAdd))
	wantTree(t, "3", 'x', sca(2), sca(1), sca(1), sel(), sel())
	wantTree(t, "3", 'i', sca(2), sca(1), sca(1), sel(), un(api.KNeg))
	wantTree(t, "3", 'x', sca(2), sca(1), sca(1), sel(), un(api.KNot))
}

// P7.1: PAt: a number below, and one of the array's cells above it.
func TestTreeAt(t *testing.T) {
	for v := 3; v <= 4; v++ {
		for a := 1; a <= 2; a++ {
			for b := 1; b <= 2; b++ {
				want := byte('x')
				if a == 1 && b == v-2 {
					want = "ib"[b-1]
				}
				wantTree(t, "3", want, sca(a), sca(b), at(v))
				wantTree(t, "3", 'x', sca(1), sca(a), sca(b), at(v))
			}
			wantTree(t, "3", 'x', sca(a), at(v))
		}
		wantTree(t, "3", 'x', at(v))
	}
	wantTree(t, "300", 'i', num(2), num(3), num(4), at(3), at(3))
	wantTree(t, "300", 'x', num(2), num(3), num(4), at(4), at(3))
	wantTree(t, "300", 'b', num(2), num(3), truthOf(1), at(4), at(4))
	wantFit(t, "i300 i1", each(0, idx(-5), num(3), at(1)), true) // any place may be asked for
}

// P7.1: one is left.
func TestTreeLeft(t *testing.T) {
	wantTree(t, "", 'x')
	wantTree(t, "3", 'x')
	wantTree(t, "", 'i', num(1))
	wantTree(t, "", 'x', num(1), num(2))
	wantTree(t, "", 'x', truthOf(1), num(2))
	wantTree(t, "", 'x', num(1), num(2), num(3), bin(api.KAdd))
	wantTree(t, "", 'i', num(1), num(2), num(3), bin(api.KAdd), bin(api.KAdd))
	wantTree(t, "", 'x', num(1), num(2), bin(api.KAdd), bin(api.KAdd))
	wantTree(t, "", 'x', num(1), num(2), bin(api.KAdd), bin(api.KAdd), num(1))
	wide := append(slices.Repeat([]api.Push{num(1)}, 12), slices.Repeat([]api.Push{bin(api.KAdd)}, 12)...)
	wantTree(t, "", 'i', wide[:23]...)
	wantTree(t, "", 'x', wide[:22]...)
	wantTree(t, "", 'x', wide...)
}

// P7.1: steps of no kind make no tree.
func TestTreeNoStep(t *testing.T) {
	for _, op := range []int{0, -1, -8, 9, 10, 255, 256, 257, 1 << 32, 1<<32 + 1, greatest, least} {
		step := api.Push{Op: op, V: 1}
		wantTree(t, "", 'x', step)
		wantTree(t, "", 'x', num(1), step)
		wantTree(t, "", 'x', step, num(1))
		wantTree(t, "", 'x', num(1), num(2), step, bin(api.KAdd))
		wantTree(t, "", 'x', api.Push{Op: op, V: -1}, num(1)) // it has no V that could be none
	}
}

// P7.1: all rows of up to four of some steps, held against the chapter's words.
func TestTreeAll(t *testing.T) {
	some := []api.Push{num(7), truthOf(1), truthOf(2), sca(1), sca(2), sca(3), arr(3, 2), arr(3, 3), arr(4, 0), arr(1, 0), idx(1000000), idx(1000001),
		un(api.KNeg), un(api.KNot), un(api.KAdd), bin(api.KAdd), bin(api.KLess), bin(api.KOr), bin(api.KNot), sel(), at(3), at(4), at(1), {}, {Op: 9}}
	seen := map[int]int{}
	hold := func(elem byte, steps []api.Push) {
		s := alone(types(string(elem)+"3"+treeVars), api.Rule{Op: api.QEach, E: steps})
		got, want := Check(s), said(s)
		if got != want {
			t.Fatalf("%v, want %v: %v", got, want, steps)
		}
		seen[want.Code]++
	}
	var from func(steps []api.Push)
	from = func(steps []api.Push) {
		hold('i', steps)
		hold('b', steps)
		if len(steps) == 4 {
			return
		}
		for _, step := range some {
			from(append(steps[:len(steps):len(steps)], step))
		}
	}
	from(nil)
	if seen[0] < 300 || len(seen) != 2 {
		t.Errorf("seen %v", seen)
	}
}
