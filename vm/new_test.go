package vm

import (
	"fmt"
	"testing"

	"loomwork/api"
	"loomwork/code"
)

// P18: of an image that may not be run code.Check's fault, and no VM.
func TestImagesThatMayNotBe(t *testing.T) {
	long := make([]int, 120001)
	for what, spoiled := range map[string]struct {
		change   func(m *api.Image)
		code, at int
	}{
		"no cells":                {func(m *api.Image) { m.Cells = 0 }, api.ErrSize, -1},
		"cells below 0":           {func(m *api.Image) { m.Cells = least }, api.ErrSize, -1},
		"too many cells":          {func(m *api.Image) { m.Cells = 6001 }, api.ErrSize, -1},
		"no registers":            {func(m *api.Image) { m.Regs = 0 }, api.ErrSize, -1},
		"too many registers":      {func(m *api.Image) { m.Regs = 41 }, api.ErrSize, -1},
		"too many Put":            {func(m *api.Image) { m.Put = long[:6001] }, api.ErrMany, -1},
		"too many Bools":          {func(m *api.Image) { m.Bools = long[:6001] }, api.ErrMany, -1},
		"too many Get":            {func(m *api.Image) { m.Get = long }, api.ErrMany, -1},
		"too many instructions":   {func(m *api.Image) { m.Code = make([]api.Ins, 200001) }, api.ErrMany, -1},
		"Put of no cell":          {func(m *api.Image) { m.Put[0] = 6 }, api.ErrRange, -1},
		"Bools of no cell":        {func(m *api.Image) { m.Bools[0] = -1 }, api.ErrRange, -1},
		"Get of no cell":          {func(m *api.Image) { m.Get[0] = greatest }, api.ErrRange, -1},
		"no Op":                   {func(m *api.Image) { m.Code[2].Op = 0 }, api.ErrForm, 2},
		"an Op that is none":      {func(m *api.Image) { m.Code[0].Op = 12 }, api.ErrForm, 0},
		"a register that is none": {func(m *api.Image) { m.Code[1].R = 2 }, api.ErrForm, 1},
		"a register less":         {func(m *api.Image) { m.Regs = 1 }, api.ErrForm, 1},
		"a cell less":             {func(m *api.Image) { m.Cells = 5; m.Get = nil }, api.ErrForm, 3},
		"no cell":                 {func(m *api.Image) { m.Code[3].N = 6 }, api.ErrForm, 3},
		"cells that are not":      {func(m *api.Image) { m.Code[5].B = 4 }, api.ErrForm, 5},
		"no operator of two":      {func(m *api.Image) { m.Code[2].K = api.KNeg }, api.ErrForm, 2},
		"too many turns":          {func(m *api.Image) { m.Code[4].N = 301 }, api.ErrForm, 4},
		"a loop without an end":   {func(m *api.Image) { m.Code[6] = m.Code[0] }, api.ErrCode, -1},
		"an end without a loop":   {func(m *api.Image) { m.Code[4] = m.Code[0] }, api.ErrCode, -1},
		"a loop within another":   {func(m *api.Image) { m.Code[5] = m.Code[4] }, api.ErrCode, -1},
		"no code":                 {func(m *api.Image) { m.Code = nil }, api.ErrCode, -1},
		"cost of none":            {func(m *api.Image) { m.Cost = 0 }, api.ErrCode, -1},
		"cost of one more":        {func(m *api.Image) { m.Cost++ }, api.ErrCode, -1},
		"cost of one less":        {func(m *api.Image) { m.Cost-- }, api.ErrCode, -1},
	} {
		m := image(6, "1 : 1 > 5", "load 0 1; num 1 2; add 0 0 1; store 0 5; loop 0 3; loadx 1 0 3 3; end")
		wantRows(t, "the image", m, "1 > 3", "0 > 2", "2 ! 17 0")
		spoiled.change(&m)
		wantBar(t, what, m, spoiled.code, spoiled.at)
		wantSame(t, what, code.Check(m), api.Fault{Code: spoiled.code, At: spoiled.at})
	}
	wantBar(t, "nothing at all", api.Image{}, api.ErrSize, -1)
}

// P18: all cells are 0 at the beginning, and no instruction has been done; there are as
// many cells as the image says.
func TestBeginning(t *testing.T) {
	for _, cells := range []int{1, 2, 300, 5999, 6000} {
		for _, regs := range []int{1, 2, 39, 40} {
			m := withCode(api.Image{Cells: cells, Put: []int{cells - 1}, Get: []int{0, cells - 1}}, instructions(fmt.Sprint("load ", regs-1, " ", cells-1, "; store ", regs-1, " 0"))...)
			wantSame(t, "registers", m.Regs, regs)
			wantRows(t, fmt.Sprint(cells, " cells, ", regs, " registers"), m, "7 > 7 7", "-8 > -8 -8")
		}
	}
	m := image(3, "> 0 1 2", "load 0 1")
	m.Regs = 40
	wantRows(t, "more registers than the code has", m, "> 0 0 0")
}
