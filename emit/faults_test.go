package emit

import (
	"fmt"
	"slices"
	"testing"

	"loomwork/api"
)

// P17.1: loop.Check's faults are told as they are.
func TestFaultsOfLoops(t *testing.T) {
	right := func() api.Loops { return over(4, "1 2 > 3", one(3, "c1"), each(0, 2, "a2"), one(0, "1")) }
	made(t, "right", right())
	for name, is := range map[string]struct {
		code, at int
		spoil    func(l *api.Loops)
	}{
		"no cells":          {api.ErrSize, -1, func(l *api.Loops) { l.Cells = 0 }},
		"below 0":           {api.ErrSize, -1, func(l *api.Loops) { l.Cells = least }},
		"too many cells":    {api.ErrSize, -1, func(l *api.Loops) { l.Cells = 6001 }},
		"too many Put":      {api.ErrMany, -1, func(l *api.Loops) { l.Put = make([]int, 6001) }},
		"too many Get":      {api.ErrMany, -1, func(l *api.Loops) { l.Get = make([]int, 120001) }},
		"too many steps":    {api.ErrMany, -1, func(l *api.Loops) { l.Steps = slices.Repeat(l.Steps, 401) }},
		"no cell of Put":    {api.ErrRange, -1, func(l *api.Loops) { l.Put[1] = 4 }},
		"no cell of Get":    {api.ErrRange, -1, func(l *api.Loops) { l.Get[0] = -1 }},
		"no Op":             {api.ErrForm, 1, func(l *api.Loops) { l.Steps[1].Op = 5 }},
		"no turns":          {api.ErrForm, 1, func(l *api.Loops) { l.Steps[1].N = 0 }},
		"too many turns":    {api.ErrForm, 1, func(l *api.Loops) { l.Steps[1].N = 301 }},
		"To no cell":        {api.ErrForm, 2, func(l *api.Loops) { l.Steps[2].To = 4 }},
		"no tree":           {api.ErrForm, 0, func(l *api.Loops) { l.Steps[0].E = nil }},
		"two trees":         {api.ErrForm, 2, func(l *api.Loops) { l.Steps[2].E = tree("1 2") }},
		"a tree too long":   {api.ErrForm, 2, func(l *api.Loops) { l.Steps[2].E = slices.Repeat(tree("1"), 25) }},
		"no cell of a tree": {api.ErrForm, 1, func(l *api.Loops) { l.Steps[1].E[0].V = 3 }},
		"no F":              {api.ErrForm, 1, func(l *api.Loops) { l.Steps[1].Op, l.Steps[1].K = api.LFold, api.KAdd }},
		"K takes not two":   {api.ErrForm, 0, func(l *api.Loops) { l.Steps[0] = fold(api.KNot, 0, 1, "1", "1") }},
	} {
		l := right()
		is.spoil(&l)
		for _, bools := range [][]int{nil, {1}, {-1}, make([]int, 6001)} {
			wantFault(t, name, l, bools, is.code, is.at)
		}
	}
}

// P17.1: bools that are no cells, or too many, are code.Check's fault.
func TestFaultsOfBools(t *testing.T) {
	for _, cells := range []int{1, 5, 6000} {
		l := over(cells, "0 > 0", one(0, "1"))
		for _, cell := range []int{0, cells / 2, cells - 1} {
			wantSame(t, fmt.Sprint("a cell ", cell), made(t, "a cell", l, cell).Bools, []int{cell})
			wantSame(t, fmt.Sprint("a cell ", cell, " twice"), made(t, "a cell", l, cell, 0, cell).Bools, []int{cell, 0, cell})
		}
		for _, cell := range []int{-1, -2, -cells, cells, cells + 1, 6001, 1 << 32, 1<<32 + 1, greatest, least} {
			for place := range 3 {
				bools := make([]int, 3)
				bools[place] = cell
				wantFault(t, fmt.Sprint("no cell ", cell), l, bools, api.ErrRange, -1)
			}
			wantFault(t, fmt.Sprint("no cell ", cell), l, []int{cell}, api.ErrRange, -1)
			wantFault(t, fmt.Sprint("no cell ", cell, " and no steps"), over(cells, "0 > 0"), []int{cell}, api.ErrRange, -1)
		}
	}
	l := over(2, "0 > 0", one(0, "1"))
	for _, count := range []int{0, 1, 5999, 6000} {
		wantSame(t, fmt.Sprint(count, " bools"), made(t, "bools", l, make([]int, count)...).Bools, make([]int, count))
	}
	for _, count := range []int{6001, 6002, 120000, 1 << 20} {
		wantFault(t, fmt.Sprint(count, " bools"), l, make([]int, count), api.ErrMany, -1)
		wantFault(t, fmt.Sprint(count, " bools that are no cells"), l, slices.Repeat([]int{2}, count), api.ErrMany, -1)
	}
}

// Bools need not be of Put: nothing is said of that.
func TestBoolsOfNoPut(t *testing.T) {
	wantSame(t, "bools", made(t, "bools", over(9, "1 2 > 3", one(3, "1")), 8, 3, 0).Bools, []int{8, 3, 0})
	wantSame(t, "bools without Put", made(t, "bools", over(9, ">"), 8).Bools, []int{8})
}

// P17.1: nil and none are the same.
func TestNoBools(t *testing.T) {
	l := over(3, "0 > 1", one(1, "c0"))
	for _, none := range [][]int{nil, {}} {
		m, fault := Make(l, none)
		wantSame(t, "no bools", []any{m, fault}, []any{api.Image{Cells: 3, Regs: 3, Cost: 2, Put: []int{0}, Get: []int{1}, Code: instructions(2, "load s0 0; store s0 1")}, api.Fault{}})
		wantFault(t, "no bools and no loops", api.Loops{}, none, api.ErrSize, -1)
		wantFault(t, "no bools and too much", over(1, ">", weighing(200001)...), none, api.ErrMany, len(weighing(200001))-1)
	}
}

// P17.1: which fault is told, if several are so: loop.Check's, wherever its step stands,
// then that of too much code, then bools'.
func TestWhichFirst(t *testing.T) {
	most := weighing(200000)
	spoils := []struct {
		code, at int
		spoil    func(l *api.Loops, bools *[]int)
	}{
		{api.ErrSize, -1, func(l *api.Loops, bools *[]int) { l.Cells = -1 }},
		{api.ErrMany, -1, func(l *api.Loops, bools *[]int) { l.Get = make([]int, 120001) }},
		{api.ErrRange, -1, func(l *api.Loops, bools *[]int) { l.Put = []int{7} }},
		{api.ErrForm, len(most) + 1, func(l *api.Loops, bools *[]int) { l.Steps[len(most)+1].Op = 0 }},
		{api.ErrMany, len(most), func(l *api.Loops, bools *[]int) { l.Steps[0], l.Steps[len(most)] = most[0], one(0, "2") }},
		{api.ErrMany, -1, func(l *api.Loops, bools *[]int) { *bools = append(*bools, make([]int, 6000)...) }},
		{api.ErrRange, -1, func(l *api.Loops, bools *[]int) { (*bools)[0] = 7 }},
	}
	short := slices.Repeat(weighing(2), len(most)+2)
	for set := range 1 << len(spoils) {
		l, bools := over(7, "0 > 0", slices.Clone(short)...), []int{0}
		copy(l.Steps[1:], most[1:]) // without the first one they are not too many
		first := api.Fault{}
		for i, k := range slices.Backward(spoils) {
			if set>>i&1 == 1 {
				k.spoil(&l, &bools)
				first = api.Fault{Code: k.code, At: k.at}
			}
		}
		if first.Code == 0 {
			made(t, "nothing spoiled", l, bools...)
			continue
		}
		wantFault(t, fmt.Sprintf("spoiled %b", set), l, bools, first.Code, first.At)
	}
}
