package vm

import (
	"fmt"
	"testing"

	"loomwork/api"
	"loomwork/sys"
)

// P18.1: the chapter's example.
func TestExample(t *testing.T) {
	l := []api.Ins{
		{Op: api.ILoad, R: 2, N: 1},
		{Op: api.INum, R: 3, N: 2},
		{Op: api.IBin, K: api.KAdd, R: 2, A: 2, B: 3},
		{Op: api.IStore, R: 2, N: 5}}
	v := begun(t, "the example", api.Image{Cells: 6, Regs: 4, Cost: 4, Put: []int{1}, Get: []int{5}, Code: l})
	wantTold(t, "the example", v, 4, []int64{7}, []int64{9})
	wantBeen(t, "the example", v, 4, []int64{0, 7, 0, 0, 0, 9})
	wantSame(t, "the example, read", instructions("load 2 1; num 3 2; add 2 2 3; store 2 5"), l)
}

// P18.1: what each instruction does, in no loop.
func TestOps(t *testing.T) {
	wantCells(t, "INum", "", "num 0 5; store 0 0; num 0 -; store 0 1; num 0 +; store 0 2", "5 - +")
	wantCells(t, "ILoad", "4 5 6", "load 0 2; load 1 0; store 0 3; store 1 4", "4 5 6 6 4")
	wantCells(t, "IStore", "4 5 6", "load 0 1; store 0 0; store 0 2; store 0 3", "5 5 5 5")
	wantCells(t, "IStore keeps its register", "4", "load 0 0; store 0 1; store 0 2", "4 4 4")
	wantCells(t, "ILoadX", "2 50 51 52 53", "load 0 0; loadx 1 0 1 4; store 1 5", "2 50 51 52 53 52")
	wantCells(t, "ILoadX keeps its place", "2 50 51 52", "load 0 0; loadx 1 0 1 3; store 0 4", "2 50 51 52 2")
	wantCells(t, "IStoreX", "2 7 0 0 0 0", "load 0 0; load 1 1; storex 1 0 2 4", "2 7 0 0 7 0")
	wantCells(t, "IStoreX keeps both", "2 7 0 0 0 0 0", "load 0 0; load 1 1; storex 1 0 2 3; store 0 5; store 1 6", "2 7 0 0 7 2 7")
	wantCells(t, "IUn", "5 0", "load 0 0; load 1 1; neg 2 0; store 2 2; not 2 0; store 2 3; not 2 1; store 2 4", "5 0 -5 0 1")
	wantCells(t, "IBin", "5 3", "load 0 0; load 1 1; sub 2 0 1; store 2 2; less 2 0 1; store 2 3; less 2 1 0; store 2 4", "5 3 2 0 1")
	wantCells(t, "ISel of true", "1", "load 0 0; num 1 10; num 2 20; sel 0 1 2; store 0 1; store 1 2; store 2 3", "1 10 10 20")
	wantCells(t, "ISel of false", "0", "load 0 0; num 1 10; num 2 20; sel 0 1 2; store 0 1; store 1 2; store 2 3", "0 20 10 20")
	wantCells(t, "IMove", "6", "load 0 0; move 1 0; store 1 1; store 0 2", "6 6 6")
	wantCells(t, "ILoop, IEnd", "", "loop 0 4; store 0 0; end", "3")
}

// P18.1: what each instruction does in a loop, turn by turn.
func TestOpsInLoops(t *testing.T) {
	wantCells(t, "INum", "", "loop 0 3; num 1 7; storex 1 0 0 3; num 1 8; end", "7 7 7")
	wantCells(t, "ILoad", "5 0 0 0", "loop 0 3; load 1 0; storex 1 0 1 3; end", "5 5 5 5")
	wantCells(t, "ILoad of things as they are then", "5 0 0", "num 2 1; loop 0 3; load 1 0; add 1 1 2; store 1 0; end", "8 0 0")
	wantCells(t, "IStore", "4 5 6 0", "loop 0 3; loadx 1 0 0 3; store 1 3; end", "4 5 6 6")
	wantCells(t, "ILoadX, IStoreX", "4 5 6 0 0 0", "loop 0 3; loadx 1 0 0 3; storex 1 0 3 3; end", "4 5 6 4 5 6")
	wantCells(t, "ILoadX of what was stored", "1 0 0 0", "loop 0 3; loadx 1 0 0 3; add 1 1 1; storex 1 0 1 3; end", "1 2 4 8")
	wantCells(t, "IUn", "3 0 -2 0 0 0", "loop 0 3; loadx 1 0 0 3; not 2 1; neg 1 1; storex 1 0 0 3; storex 2 0 3 3; end", "-3 0 2 0 1 0")
	wantCells(t, "IBin", "4 5 6 7", "loop 0 4; loadx 1 0 0 4; add 2 2 1; end; store 2 0", "22 5 6 7")
	wantCells(t, "IBin of what is less", "9 4 7 4 8", "load 1 0; loop 0 5; loadx 2 0 0 5; min 1 1 2; end; store 1 0", "4 4 7 4 8")
	wantCells(t, "ISel", "0 1 -1 2 0", "num 2 10; num 3 20; loop 0 5; loadx 1 0 0 5; sel 1 2 3; storex 1 0 0 5; end", "20 10 10 10 20")
	wantCells(t, "IMove", "4 5 6", "loop 0 3; loadx 1 0 0 3; storex 2 0 0 3; move 2 1; end", "0 4 5")
}

// P18.1: an instruction into a register that it takes from.
func TestIntoItsOwn(t *testing.T) {
	wantCells(t, "ILoadX into its place", "2 50 51 52", "load 0 0; loadx 0 0 1 3; store 0 0", "52 50 51 52")
	wantCells(t, "IStoreX of its place", "2 50 51 52", "load 0 0; storex 0 0 1 3", "2 50 51 2")
	wantCells(t, "IUn into its own", "5", "load 0 0; neg 0 0; store 0 0", "-5")
	wantCells(t, "IBin into A", "5 3", "load 0 0; load 1 1; sub 0 0 1; store 0 2; store 1 3", "5 3 2 3")
	wantCells(t, "IBin into B", "5 3", "load 0 0; load 1 1; sub 1 0 1; store 1 2; store 0 3", "5 3 2 5")
	wantCells(t, "IBin into both", "5", "load 0 0; mul 0 0 0; store 0 0", "25")
	wantCells(t, "IBin of one", "5", "load 1 0; sub 0 1 1; store 0 1; add 0 1 1; store 0 2; store 1 3", "5 0 10 5")
	wantCells(t, "ISel, R and A, true", "5 3", "load 0 0; load 1 1; sel 0 0 1; store 0 0", "5 3")
	wantCells(t, "ISel, R and A, false", "0 3", "load 0 0; load 1 1; sel 0 0 1; store 0 0", "3 3")
	wantCells(t, "ISel, R and B, true", "5 3", "load 0 0; load 1 1; sel 0 1 0; store 0 0", "3 3")
	wantCells(t, "ISel, R and B, false", "0 3", "load 0 0; load 1 1; sel 0 1 0; store 0 0", "0 3")
	wantCells(t, "ISel, all one", "-6", "load 0 0; sel 0 0 0; store 0 1", "-6 -6")
	wantCells(t, "ISel, A and B one", "0 1 9", "load 0 0; load 1 1; load 2 2; sel 0 2 2; sel 1 2 2; store 0 0; store 1 1", "9 9 9")
	wantCells(t, "IMove into its own", "6", "load 0 0; move 0 0; store 0 1", "6 6")
	wantCells(t, "in a loop", "1 2 3 0", "loop 1 3; loadx 0 0 0 4; end; store 0 3", "1 2 3 3")
}

// P18.1: of ISel all but 0 is true.
func TestChoices(t *testing.T) {
	m := image(3, "0 1 2 > 0 1 2", "load 0 0; load 1 1; load 2 2; sel 0 1 2; store 0 0")
	v := begun(t, "ISel", m)
	for _, choice := range someNumbers() {
		for _, a := range someNumbers() {
			for _, b := range []int64{a, -a, 0, 1, least} {
				want := b
				if choice != 0 {
					want = a
				}
				wantTold(t, "ISel", v, m.Cost, []int64{choice, a, b}, []int64{want, a, b})
			}
		}
	}
}

// P18.1: IUn and IBin: what sys.Apply says, in no loop and in one, of each operator and
// each two numbers.
func TestOperators(t *testing.T) {
	for k := api.KAdd; k <= api.KNot; k++ {
		i := api.Ins{Op: api.IBin, K: k, R: 2, A: 0, B: 1}
		if k >= api.KNeg {
			i = api.Ins{Op: api.IUn, K: k, R: 2, A: 0, B: 1}
		}
		text := "load 0 0; load 1 1; move 2 0; store 2 2; loop 3 2; move 2 0; storex 2 3 3 2; end"
		l := instructions(text)
		l[2], l[5] = i, i
		m := withCode(api.Image{Cells: 5, Put: []int{0, 1}, Get: []int{2, 3, 4}}, l...)
		v := begun(t, nameOf(k), m)
		for _, a := range someNumbers() {
			for _, b := range someNumbers() {
				want := sys.Apply(k, a, b)
				wantTold(t, nameOf(k), v, m.Cost, []int64{a, b}, []int64{want, want, want})
			}
		}
	}
}

// P18.1: operators, by their own words: divisions by 0, the least number, numbers that wrap
// round, truths that are neither 0 nor 1.
func TestOperatorsThatWrap(t *testing.T) {
	for rows, want := range map[string]string{
		"+ 1":                   "add -, sub 9223372036854775806, mul +, div +, mod 0, min 1, max +, less 0, eq 0, and 1, or 1, xor 0, neg -9223372036854775807, not 0",
		"- 1":                   "add -9223372036854775807, sub +, mul -, div -, mod 0, min -, max 1, less 1, eq 0, and 1, or 1, xor 0, neg -, not 0",
		"- -1":                  "add +, sub -9223372036854775807, mul -, div -, mod 0, min -, max -1, less 1, eq 0, and 1, or 1, xor 0, neg -, not 0",
		"- -":                   "add 0, sub 0, mul 0, div 1, mod 0, min -, max -, less 0, eq 1, and 1, or 1, xor 0, neg -, not 0",
		"7 0":                   "add 7, sub 7, mul 0, div 0, mod 0, min 0, max 7, less 0, eq 0, and 0, or 1, xor 1, neg -7, not 0",
		"- 0":                   "add -, sub -, mul 0, div 0, mod 0, min -, max 0, less 1, eq 0, and 0, or 1, xor 1, neg -, not 0",
		"0 0":                   "add 0, sub 0, mul 0, div 0, mod 0, min 0, max 0, less 0, eq 1, and 0, or 0, xor 0, neg 0, not 1",
		"-7 2":                  "add -5, sub -9, mul -14, div -3, mod -1, min -7, max 2, less 1, eq 0, and 1, or 1, xor 0, neg 7, not 0",
		"7 -2":                  "add 5, sub 9, mul -14, div -3, mod 1, min -2, max 7, less 0, eq 0, and 1, or 1, xor 0, neg -7, not 0",
		"0 5":                   "add 5, sub -5, mul 0, div 0, mod 0, min 0, max 5, less 1, eq 0, and 0, or 1, xor 1, neg 0, not 1",
		"3037000500 3037000500": "add 6074001000, sub 0, mul -9223372036709301616, div 1, mod 0, min 3037000500, max 3037000500, less 0, eq 1, and 1, or 1, xor 0, neg -3037000500, not 0",
	} {
		for _, each := range fieldsOf(want) {
			name, result := each[0], each[1]
			text := fmt.Sprint("load 0 0; load 1 1; ", name, " 2 0 1; store 2 2")
			wantRows(t, name+" of "+rows, image(3, "0 1 > 2", text), rows+" > "+result)
			text = fmt.Sprint("load 0 0; load 1 1; loop 3 1; ", name, " 2 0 1; end; store 2 2")
			wantRows(t, name+" of "+rows+" in a loop", image(3, "0 1 > 2", text), rows+" > "+result)
		}
	}
}

// P18.1: fields that an instruction does not have may be anything.
func TestOtherFields(t *testing.T) {
	text := "num 0 5; load 1 0; loadx 2 4 0 1; store 0 1; storex 0 4 2 1; neg 3 0; add 3 3 0; sel 3 0 1; move 3 0; store 3 3; loop 5 3; store 5 4; end; store 5 5"
	m := image(6, "0 > 0 1 2 3 4 5", text)
	const told = "9 5 5 5 2 2"
	wantRows(t, "all zero", m, "9 > "+told)
	for _, other := range []int{-1, 1, 5, 6, 39, 40, 300, 301, 1 << 32, greatest, least} {
		for number := range m.Code {
			l := instructions(text)
			spoil(&l[number], other)
			wantRows(t, fmt.Sprint("instruction ", number, " with ", other), withCode(m, l...), "9 > "+told, "9 > "+told)
		}
		l := instructions(text)
		for number := range l {
			spoil(&l[number], other)
		}
		wantRows(t, fmt.Sprint("all with ", other), withCode(m, l...), "9 > "+told, "9 > "+told)
	}
}

// spoil puts a number into each field that an instruction does not have.
func spoil(i *api.Ins, other int) {
	n := int64(other)
	switch i.Op {
	case api.INum, api.ILoad, api.IStore, api.ILoop:
		i.K, i.A, i.B = other, other, other
	case api.ILoadX, api.IStoreX:
		i.K = other
	case api.IUn:
		i.B, i.N = other, n
	case api.IBin:
		i.N = n
	case api.ISel:
		i.K, i.N = other, n
	case api.IMove:
		i.K, i.B, i.N = other, other, n
	case api.IEnd:
		i.K, i.R, i.A, i.B, i.N = other, other, other, other, n
	}
}
