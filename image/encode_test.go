package image

import (
	"slices"
	"strings"
	"testing"

	"loomwork/api"
	"loomwork/code"
)

// P19.1: the bytes that go ahead, the numbers in their order, and the sum behind.
func TestEncode(t *testing.T) {
	m := api.Image{Cells: 5, Regs: 4, Cost: 9, Put: []int{1, 2}, Bools: []int{2}, Get: []int{3, 4, 0}, Code: []api.Ins{
		{Op: api.ILoad, K: 6, R: 1, A: 7, B: 8, N: 2},
		{Op: api.ILoop, K: 9, R: 2, A: -9, B: 10, N: 3},
		{Op: api.IBin, K: api.KMul, R: 1, A: 2, B: 3, N: 11},
		{Op: api.IEnd, K: 12, R: 13, A: 14, B: 15, N: 16},
		{Op: api.IStore, K: 0, R: 3, A: -1, B: -2, N: 4}}}
	between := "10 8 18 4 2 4 2 4 6 6 8 0 10 " +
		"4 12 2 14 16 4 20 18 4 17 20 6 14 6 2 4 6 22 22 24 26 28 30 32 8 0 6 1 3 8"
	wantThereAndBack(t, "all", m, between)
	b := encoded(t, "all", m)
	wantSame(t, "the bytes ahead", b[:3], []byte{76, 87, 1})
	sum := saidSum(b[:len(b)-4])
	wantSame(t, "the sum", b[len(b)-4:], []byte{byte(sum), byte(sum >> 8), byte(sum >> 16), byte(sum >> 24)})
}

// P19.1: an image with a number of its own at each place, so that none is taken for
// another.
func TestEachPlace(t *testing.T) {
	m := api.Image{Cells: 100, Regs: 3, Cost: 1, Put: []int{2}, Code: []api.Ins{{Op: api.INum, N: -1}}}
	wantThereAndBack(t, "the document's", m, "200 1 6 2 2 4 0 0 2 2 0 0 0 0 1")
	for what, change := range map[string]func(m *api.Image){
		"201 1 6 2 2 4 0 0 2 2 0 0 0 0 1": nil, // -101 cells
		"202 1 6 2 2 4 0 0 2 2 0 0 0 0 1": func(m *api.Image) { m.Cells = 101 },
		"200 1 8 2 2 4 0 0 2 2 0 0 0 0 1": func(m *api.Image) { m.Regs = 4 },
		"200 1 6 4 2 4 0 0 2 2 0 0 0 0 1": nil, // a cost that is not
		"200 1 6 2 2 6 0 0 2 2 0 0 0 0 1": func(m *api.Image) { m.Put[0] = 3 },
		"200 1 6 2 0 2 4 0 2 2 0 0 0 0 1": func(m *api.Image) { m.Put, m.Bools = nil, []int{2} },
		"200 1 6 2 0 0 2 4 2 2 0 0 0 0 1": func(m *api.Image) { m.Put, m.Get = nil, []int{2} },
		"200 1 6 2 2 4 0 0 2 4 0 0 0 0 0": func(m *api.Image) { m.Code[0] = api.Ins{Op: api.ILoad} },
		"200 1 6 2 2 4 0 0 2 2 4 0 0 0 1": func(m *api.Image) { m.Code[0].K = 2 },
		"200 1 6 2 2 4 0 0 2 2 0 4 0 0 1": func(m *api.Image) { m.Code[0].R = 2 },
		"200 1 6 2 2 4 0 0 2 2 0 0 4 0 1": func(m *api.Image) { m.Code[0].A = 2 },
		"200 1 6 2 2 4 0 0 2 2 0 0 0 4 1": func(m *api.Image) { m.Code[0].B = 2 },
		"200 1 6 2 2 4 0 0 2 2 0 0 0 0 4": func(m *api.Image) { m.Code[0].N = 2 },
		"200 1 6 4 2 4 0 0 4 2 0 0 0 0 1 2 0 0 0 0 1": func(m *api.Image) {
			m.Cost, m.Code = 2, slices.Repeat(m.Code, 2)
		},
	} {
		if change == nil {
			wantBar(t, what, around(bytesOf(what)), api.ErrCode, 3+len(bytesOf(what)))
			continue
		}
		m := api.Image{Cells: 100, Regs: 3, Cost: 1, Put: []int{2}, Code: []api.Ins{{Op: api.INum, N: -1}}}
		change(&m)
		wantThereAndBack(t, what, m, what)
	}
}

// P19.1, P19.2: images of no code, and of nothing that is given or told; lists may be nil
// or empty, and are the same either way.
func TestEmptyLists(t *testing.T) {
	for _, empty := range [][]int{nil, {}} {
		for _, l := range [][]api.Ins{nil, {}} {
			m := api.Image{Cells: 1, Regs: 1, Put: empty, Bools: empty, Get: empty, Code: l}
			wantThereAndBack(t, "no list", m, "2 2 0 0 0 0 0")
			m.Put = []int{0}
			wantThereAndBack(t, "Put alone", m, "2 2 0 2 0 0 0 0")
			m.Put, m.Bools = empty, []int{0}
			wantThereAndBack(t, "Bools alone", m, "2 2 0 0 2 0 0 0")
			m.Bools, m.Get = empty, []int{0}
			wantThereAndBack(t, "Get alone", m, "2 2 0 0 0 2 0 0")
		}
		m := withCode(api.Image{Cells: 1, Put: empty, Bools: empty, Get: empty}, instructions("num 0 5")...)
		wantThereAndBack(t, "code alone", m, "2 2 2 0 0 0 2 2 0 0 0 0 10")
	}
}

// refused are images that may not be run, with code.Check's faults.
func refused() map[string]func(m *api.Image) api.Fault {
	fault := func(k, at int) api.Fault { return api.Fault{Code: k, At: at} }
	return map[string]func(m *api.Image) api.Fault{
		"no cells":            func(m *api.Image) api.Fault { m.Cells = 0; return fault(api.ErrSize, -1) },
		"cells below 0":       func(m *api.Image) api.Fault { m.Cells = least; return fault(api.ErrSize, -1) },
		"cells too many":      func(m *api.Image) api.Fault { m.Cells = 6001; return fault(api.ErrSize, -1) },
		"cells far too many":  func(m *api.Image) api.Fault { m.Cells = greatest; return fault(api.ErrSize, -1) },
		"no registers":        func(m *api.Image) api.Fault { m.Regs = 0; return fault(api.ErrSize, -1) },
		"registers too many":  func(m *api.Image) api.Fault { m.Regs = 41; return fault(api.ErrSize, -1) },
		"registers below 0":   func(m *api.Image) api.Fault { m.Regs = -1; return fault(api.ErrSize, -1) },
		"Put too long":        func(m *api.Image) api.Fault { m.Put = make([]int, 6001); return fault(api.ErrMany, -1) },
		"Bools too long":      func(m *api.Image) api.Fault { m.Bools = make([]int, 6001); return fault(api.ErrMany, -1) },
		"Get too long":        func(m *api.Image) api.Fault { m.Get = make([]int, 120001); return fault(api.ErrMany, -1) },
		"Put of no cell":      func(m *api.Image) api.Fault { m.Put[0] = 3; return fault(api.ErrRange, -1) },
		"Put below 0":         func(m *api.Image) api.Fault { m.Put[1] = -1; return fault(api.ErrRange, -1) },
		"Bools of no cell":    func(m *api.Image) api.Fault { m.Bools[0] = least; return fault(api.ErrRange, -1) },
		"Get of no cell":      func(m *api.Image) api.Fault { m.Get[0] = greatest; return fault(api.ErrRange, -1) },
		"no Op":               func(m *api.Image) api.Fault { m.Code[0].Op = 0; return fault(api.ErrForm, 0) },
		"Op below 0":          func(m *api.Image) api.Fault { m.Code[1].Op = least; return fault(api.ErrForm, 1) },
		"a twelfth Op":        func(m *api.Image) api.Fault { m.Code[1].Op = 12; return fault(api.ErrForm, 1) },
		"no register":         func(m *api.Image) api.Fault { m.Code[2].A = 2; return fault(api.ErrForm, 2) },
		"a register far away": func(m *api.Image) api.Fault { m.Code[2].B = greatest; return fault(api.ErrForm, 2) },
		"no operator":         func(m *api.Image) api.Fault { m.Code[2].K = api.KNeg; return fault(api.ErrForm, 2) },
		"no cell":             func(m *api.Image) api.Fault { m.Code[0].N = 3; return fault(api.ErrForm, 0) },
		"cells beyond":        func(m *api.Image) api.Fault { m.Code[1].B = 3; return fault(api.ErrForm, 1) },
		"cells from far away": func(m *api.Image) api.Fault { m.Code[1].N = greatest; return fault(api.ErrForm, 1) },
		"another cost":        func(m *api.Image) api.Fault { m.Cost++; return fault(api.ErrCode, -1) },
		"a cost below 0":      func(m *api.Image) api.Fault { m.Cost = least; return fault(api.ErrCode, -1) },
		"a loop not over": func(m *api.Image) api.Fault {
			m.Code[3] = api.Ins{Op: api.ILoop, N: 1}
			return fault(api.ErrCode, -1)
		},
		"no code, yet a cost": func(m *api.Image) api.Fault { m.Code = nil; return fault(api.ErrCode, -1) },
		"code too long": func(m *api.Image) api.Fault {
			m.Code = slices.Repeat(instructions("num 0 5"), 200001)
			return fault(api.ErrMany, -1)
		},
	}
}

// P19.1, P19.2: of an image that may not be run Encode has code.Check's fault; of its
// bytes, whose sum is right, Decode has ErrCode where the last four begin.
func TestMayNotBeRun(t *testing.T) {
	for what, spoil := range refused() {
		m := imageOf(3, "0 1 : 1 > 2", "load 0 0; loadx 1 0 1 2; add 0 0 1; store 0 2")
		wantDecoded(t, what+": unspoilt", encoded(t, what, m), m)
		fault := spoil(&m)
		wantSame(t, what+": code.Check", code.Check(m), fault)
		wantRefused(t, what, m, fault.Code, fault.At)
		b := around(saidBetween(m))
		wantBar(t, what, b, api.ErrCode, len(b)-4)
	}
}

// P19.1: as much as there may be.
func TestFull(t *testing.T) {
	m := api.Image{Cells: 6000, Regs: 40, Put: upTo(0, 6000), Bools: upTo(0, 6000), Get: slices.Repeat(upTo(0, 6000), 20)}
	l := slices.Repeat([]api.Ins{{Op: api.INum, K: least, R: 39, A: least, B: greatest, N: least}}, 200000)
	m = withCode(m, l...)
	b := encoded(t, "full", m)
	lists, instruction := 2+2+3+22*(64+5936*2), 1+10+1+10+10+10
	wantSame(t, "full: how many bytes", len(b), 3+2+1+3+lists+3+200000*instruction+4)
	wantDecoded(t, "full", b, m)
	wantBar(t, "full, with a byte behind", around(append(slices.Clone(b[3:len(b)-4]), 0)), api.ErrForm, len(b)-4)
}

// What follows: each Op, with each operator, there and back.
func TestOps(t *testing.T) {
	texts := []string{
		"num 0 5", "load 0 1", "loadx 0 1 2 3", "store 0 1", "storex 0 1 2 3", "neg 0 1", "not 0 1", "sel 0 1 2", "move 0 1",
		"loop 0 3; end", "loop 0 300; add 1 1 0; end", "loop 0 1; end; loop 1 2; neg 1 1; end",
	}
	for _, name := range strings.Fields(namesOfTwo) {
		texts = append(texts, name+" 0 1 2")
	}
	for _, text := range texts {
		m := imageOf(9, "1 > 2", text)
		b := encoded(t, text, m)
		wantSame(t, text, b, around(saidBetween(m)))
		wantDecoded(t, text, b, m)
	}
}
