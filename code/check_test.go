package code

import (
	"fmt"
	"slices"
	"testing"

	"loomwork/api"
)

// P16.2: ErrSize at -1: Cells is not from 1 to MaxCells, or Regs from 1 to MaxRegs.
func TestSizes(t *testing.T) {
	for _, cells := range []int{1, 2, 5999, 6000} {
		for _, regs := range []int{1, 2, 39, 40} {
			m := image(cells, regs, load(regs-1, int64(cells-1)), store(0, 0))
			m.Put, m.Bools, m.Get = []int{cells - 1}, []int{0}, []int{cells - 1, 0}
			wantRight(t, fmt.Sprint(cells, " cells, ", regs, " registers"), m)
		}
	}
	for _, cells := range []int{0, -1, -6000, 6001, 1 << 32, 1<<32 + 1, greatest, least} {
		for _, regs := range []int{1, 40, 0, 41} {
			wantFault(t, fmt.Sprint(cells, " cells"), api.Image{Cells: cells, Regs: regs}, api.ErrSize, -1)
		}
	}
	for _, regs := range []int{0, -1, -40, 41, 6000, 1 << 32, 1<<32 + 1, greatest, least} {
		for _, cells := range []int{1, 6000, 0, 6001} {
			wantFault(t, fmt.Sprint(regs, " registers"), api.Image{Cells: cells, Regs: regs}, api.ErrSize, -1)
		}
	}
}

// P16.2: ErrMany at -1: more Put, Bools, Get or instructions than there may be.
func TestMany(t *testing.T) {
	for name, change := range map[string]func(m *api.Image, more int){
		"Put":   func(m *api.Image, more int) { m.Put = make([]int, 6000+more) },
		"Bools": func(m *api.Image, more int) { m.Bools = make([]int, 6000+more) },
		"Get":   func(m *api.Image, more int) { m.Get = make([]int, 120000+more) },
		"code": func(m *api.Image, more int) {
			m.Code = slices.Repeat([]api.Ins{num(0, 0)}, 200000+more)
			m.Cost = len(m.Code)
		},
	} {
		m := image(1, 1, num(0, 0))
		for _, more := range []int{-1, 0} {
			change(&m, more)
			wantRight(t, fmt.Sprint(name, " and ", more), m)
		}
		for _, more := range []int{1, 2, 300000} {
			change(&m, more)
			wantFault(t, fmt.Sprint(name, " and ", more), m, api.ErrMany, -1)
		}
	}
}

// P16.2: ErrRange at -1: one of Put, Bools or Get is no cell.
func TestNoCells(t *testing.T) {
	for _, cells := range []int{1, 4, 6000} {
		m := image(cells, 1)
		lists := map[string]*[]int{"Put": &m.Put, "Bools": &m.Bools, "Get": &m.Get}
		for name, list := range lists {
			for _, cell := range append(astray(cells), 0, cells-1) {
				for place := range 3 {
					*list = make([]int, 3)
					(*list)[place] = cell
					what := fmt.Sprint(cells, " cells: ", name, " ", *list)
					if cell == 0 || cell == cells-1 {
						wantRight(t, what, m)
						continue
					}
					wantFault(t, what, m, api.ErrRange, -1)
					for _, other := range lists {
						was := *other
						if other != list {
							*other = make([]int, 9)
						}
						wantFault(t, what+" beside others", m, api.ErrRange, -1)
						*other = was
					}
				}
			}
			*list = nil
		}
	}
}

// Bools need not be of Put, nor stand once: nothing is said of that.
func TestBoolsOfNoPut(t *testing.T) {
	m := image(3, 1)
	m.Put, m.Bools, m.Get = []int{1, 1}, []int{2, 0, 2}, []int{1, 1}
	wantRight(t, "Bools", m)
}

// P16.2: ErrForm of what is none of the eleven.
func TestOps(t *testing.T) {
	for _, op := range ops() {
		wantIns(t, fmt.Sprint("Op ", op), 1, 1, plainIns(op), true)
	}
	for _, op := range noOps() {
		wantIns(t, fmt.Sprint("Op ", op), 1, 1, api.Ins{Op: op}, false)
		i := bin(api.KAdd, 0, 0, 0)
		i.Op = op
		wantIns(t, fmt.Sprint("Op ", op), 1, 1, i, false)
	}
}

// namesOf says which of R, A and B each Op names as registers.
func namesOf(op int) string {
	return map[int]string{api.INum: "R", api.ILoad: "R", api.ILoadX: "RA", api.IStore: "R", api.IStoreX: "RA",
		api.IUn: "RA", api.IBin: "RAB", api.ISel: "RAB", api.IMove: "RA", api.ILoop: "R", api.IEnd: ""}[op]
}

// P16.2: ErrForm, if a register that an instruction names is not there. What it does not
// name is not looked at.
func TestRegisters(t *testing.T) {
	for _, op := range ops() {
		for _, regs := range []int{1, 3, 40} {
			for _, name := range "RAB" {
				if name == 'B' && (op == api.ILoadX || op == api.IStoreX) {
					continue // how many cells there are
				}
				i := plainIns(op)
				field := map[rune]*int{'R': &i.R, 'A': &i.A, 'B': &i.B}[name]
				isNamed := slices.Contains([]rune(namesOf(op)), name)
				what := fmt.Sprint("Op ", op, ", ", regs, " registers: ", string(name), " ")
				for _, register := range []int{0, regs - 1} {
					*field = register
					wantIns(t, fmt.Sprint(what, register), 1, regs, i, true)
				}
				for _, register := range astray(regs) {
					*field = register
					wantIns(t, fmt.Sprint(what, register), 1, regs, i, !isNamed)
				}
			}
		}
	}
}

// P16.2: ErrForm, if N of an ILoad or IStore is no cell; of others N may be anything.
func TestCellOf(t *testing.T) {
	for _, cells := range []int{1, 5, 6000} {
		for _, op := range []int{api.ILoad, api.IStore} {
			for _, n := range []int{0, cells / 2, cells - 1} {
				wantIns(t, "a cell", cells, 1, api.Ins{Op: op, N: int64(n)}, true)
			}
			for _, n := range astray(cells) {
				wantIns(t, "no cell", cells, 1, api.Ins{Op: op, N: int64(n)}, false)
				wantIns(t, "no cell", cells, 1, api.Ins{Op: op, N: int64(n), A: 0, B: 1, K: 1}, false)
			}
		}
	}
	for _, op := range []int{api.INum, api.IUn, api.IBin, api.ISel, api.IMove, api.IEnd} {
		for _, n := range astray(1) {
			i := plainIns(op)
			i.N = int64(n)
			wantIns(t, "N that is none", 1, 1, i, true)
		}
	}
}

// P16.2: ErrForm, if B cells from N on are not there, B from 1 on.
func TestCellsFrom(t *testing.T) {
	for _, op := range []int{api.ILoadX, api.IStoreX} {
		for _, cells := range []int{1, 2, 7, 6000} {
			is := func(b, n int, isRight bool) {
				t.Helper()
				wantIns(t, fmt.Sprint("Op ", op, ": ", b, " of ", cells, " cells from ", n, " on"), cells, 1, api.Ins{Op: op, B: b, N: int64(n)}, isRight)
			}
			for n := range min(cells, 10) {
				is(cells-n, n, true)
				is(1, n, true)
				is(cells-n+1, n, false)
				is(cells-n, n+1, false)
				is(0, n, false)
				is(-1, n, false)
				is(least, n, false)
				is(greatest, n, false)
				is(greatest-n, n, false)
				is(greatest-n+1, n, false)
				is(1<<32, n, false)
				is(1<<32+1, n, false)
			}
			is(1, cells-1, true)
			is(2, cells-1, false)
			for _, n := range astray(cells) {
				for _, b := range []int{1, 2, cells, 0, -1, least, greatest, 1 << 32, -n, cells - n} {
					is(b, n, false)
				}
			}
		}
	}
	wantIns(t, "registers are not cells", 40, 2, loadX(1, 1, 40, 0), true)
	wantIns(t, "registers are not cells", 2, 40, storeX(39, 39, 3, 0), false)
}

// P16.2: ErrForm, if K of an IUn takes not one, of an IBin not two; of others K may be
// anything.
func TestOperators(t *testing.T) {
	for k := -2; k <= 20; k++ {
		takesTwo := k >= api.KAdd && k <= api.KXor
		takesOne := k == api.KNeg || k == api.KNot
		wantIns(t, fmt.Sprint("IUn ", k), 1, 1, un(k, 0, 0), takesOne)
		wantIns(t, fmt.Sprint("IBin ", k), 1, 1, bin(k, 0, 0, 0), takesTwo)
	}
	for _, k := range []int{greatest, least, 1 << 32, 1<<32 + api.KAdd, 1<<32 + api.KNot, 256 + api.KAdd, -api.KNot} {
		wantIns(t, "IUn", 1, 1, un(k, 0, 0), false)
		wantIns(t, "IBin", 1, 1, bin(k, 0, 0, 0), false)
		for _, op := range ops() {
			if op != api.IUn && op != api.IBin {
				i := plainIns(op)
				i.K = k
				wantIns(t, fmt.Sprint("K of Op ", op), 1, 1, i, true)
			}
		}
	}
}

// P16.2: ErrForm, if N of an ILoop is not from 1 to MaxArray.
func TestLoopTurns(t *testing.T) {
	for _, n := range []int64{1, 2, 299, 300} {
		wantIns(t, fmt.Sprint("N ", n), 1, 1, loop(0, n), true)
	}
	for _, n := range []int64{0, -1, -300, 301, 302, 6000, 1 << 32, 1<<32 + 1, greatest, least} {
		wantIns(t, fmt.Sprint("N ", n), 1, 1, loop(0, n), false)
		wantIns(t, fmt.Sprint("N ", n), 6000, 40, loop(0, n), false)
	}
}

// P16.2: ErrForm is told of the first instruction of which it is so, whatever is wrong with
// it and with those behind it.
func TestFirstIns(t *testing.T) {
	wrong := []api.Ins{{Op: 0}, {Op: 12}, num(2, 0), load(0, 6), loadX(0, 0, 7, 0), store(-1, 0), storeX(0, 2, 1, 0),
		un(api.KAdd, 0, 0), bin(api.KNeg, 0, 0, 0), sel(0, 0, 2), move(0, -1), loop(0, 0), loop(2, 1)}
	right := []api.Ins{num(1, 5), loop(0, 6), loadX(1, 0, 6, 0), storeX(1, 0, 6, 0), end(), sel(0, 1, 0), load(0, 5)}
	wantRight(t, "right ones", image(6, 2, right...))
	for _, i := range wrong {
		for number := range right {
			l := slices.Clone(right)
			l[number] = i
			wantFault(t, fmt.Sprint("wrong: ", i), image(6, 2, l...), api.ErrForm, number)
			for _, other := range wrong {
				l = append(l, other)
				wantFault(t, fmt.Sprint("wrong: ", i, " and more"), image(6, 2, l...), api.ErrForm, number)
			}
		}
	}
}

// P16.2: ErrCode at -1: Cost is 0 with some instructions, or not the image's.
func TestCosts(t *testing.T) {
	for _, text := range []string{".", ". .", "(1 )", "(300 . ) .", ". (2 . . ) (3 ) ."} {
		m := image(1, 1, shape(text)...)
		wantRight(t, text, m)
		right := m.Cost
		for _, cost := range []int{right + 1, right - 1, 0, -right, -1, right + 1<<32, greatest, least} {
			m.Cost = cost
			wantFault(t, fmt.Sprint(text, " costs ", cost), m, api.ErrCode, -1)
		}
	}
	none := image(1, 1)
	wantRight(t, "no instructions", none)
	for _, cost := range []int{1, -1, 2, 1 << 32, greatest, least} {
		none.Cost = cost
		wantFault(t, fmt.Sprint("no instructions cost ", cost), none, api.ErrCode, -1)
	}
	for _, text := range []string{")", "(2", "(2 (2 ) )", "(2 ) )", ". ) .", "(1 . ) (1"} {
		m := image(1, 1, shape(text)...)
		for _, cost := range []int{0, 1, -1, len(m.Code), greatest} {
			m.Cost = cost
			wantFault(t, fmt.Sprint(text, " costs ", cost), m, api.ErrCode, -1)
		}
	}
}

// P16.2: of several faults the one that the chapter names first is told.
func TestWhichFirst(t *testing.T) {
	type kind struct {
		code, at int
		spoil    func(m *api.Image)
	}
	longPut, longGet, longCode := make([]int, 6001), make([]int, 120001), make([]api.Ins, 200001)
	kinds := []kind{
		{api.ErrSize, -1, func(m *api.Image) { m.Cells = 0 }},
		{api.ErrSize, -1, func(m *api.Image) { m.Regs = 41 }},
		{api.ErrMany, -1, func(m *api.Image) { m.Put = longPut }},
		{api.ErrMany, -1, func(m *api.Image) { m.Bools = longPut }},
		{api.ErrMany, -1, func(m *api.Image) { m.Get = longGet }},
		{api.ErrMany, -1, func(m *api.Image) { copy(longCode, m.Code); m.Code = longCode }},
		{api.ErrRange, -1, func(m *api.Image) { m.Put = append(slices.Clone(m.Put), -1) }},
		{api.ErrRange, -1, func(m *api.Image) { m.Bools = append(slices.Clone(m.Bools), 4) }},
		{api.ErrRange, -1, func(m *api.Image) { m.Get = append(slices.Clone(m.Get), greatest) }},
		{api.ErrForm, 1, func(m *api.Image) { m.Code[1].N = 301 }},
		{api.ErrForm, 2, func(m *api.Image) { m.Code[2].Op = 12 }},
		{api.ErrCode, -1, func(m *api.Image) { m.Cost++ }},
		{api.ErrCode, -1, func(m *api.Image) { m.Code[3] = move(0, 0) }},
	}
	for set := range 1 << len(kinds) {
		m := image(4, 2, shape(". (2 . ) .")...)
		m.Put, m.Bools, m.Get = []int{0}, []int{3}, []int{3, 0}
		first := kind{}
		for i, k := range slices.Backward(kinds) {
			if set>>i&1 == 1 {
				k.spoil(&m)
				first = k
			}
		}
		wantFault(t, fmt.Sprintf("spoiled %b", set), m, first.code, first.at)
	}
}
