package code

import (
	"loomwork/api"
)

// saidCost is how many instructions are done, by the chapter's words: it goes through the
// code as a machine would that does all of them.
func saidCost(l []api.Ins) int {
	if !saidLoops(l) {
		return 0
	}
	done, begin, left := 0, 0, int64(0)
	for at := 0; at < len(l); at++ {
		done++
		switch l[at].Op {
		case api.ILoop:
			begin, left = at, l[at].N
		case api.IEnd:
			if left--; left > 0 {
				at = begin
			}
		}
	}
	return done
}

// saidLoops looks from each ILoop for the next of both, and from each IEnd for the last of
// both.
func saidLoops(l []api.Ins) bool {
	isBound := func(i api.Ins) bool { return i.Op == api.ILoop || i.Op == api.IEnd }
	var bounds []api.Ins
	for _, i := range l {
		if isBound(i) {
			bounds = append(bounds, i)
		}
	}
	for at, i := range bounds {
		switch i.Op {
		case api.ILoop:
			if i.N < 1 || i.N > 300 || at+1 == len(bounds) || bounds[at+1].Op != api.IEnd {
				return false
			}
		case api.IEnd:
			if at == 0 || bounds[at-1].Op != api.ILoop {
				return false
			}
		}
	}
	return true
}

// saidFault is the first fault of an image, by the chapter's words.
func saidFault(m api.Image) api.Fault {
	whole := func(code int) api.Fault { return api.Fault{Code: code, At: -1} }
	if m.Cells < 1 || m.Cells > 6000 || m.Regs < 1 || m.Regs > 40 {
		return whole(api.ErrSize)
	}
	if len(m.Put) > 6000 || len(m.Bools) > 6000 || len(m.Get) > 400*300 || len(m.Code) > 200000 {
		return whole(api.ErrMany)
	}
	for _, list := range [][]int{m.Put, m.Bools, m.Get} {
		for _, cell := range list {
			if !saidThere(m.Cells, int64(cell), 1) {
				return whole(api.ErrRange)
			}
		}
	}
	for at, i := range m.Code {
		if !saidIns(m, i) {
			return api.Fault{Code: api.ErrForm, At: at}
		}
	}
	cost := saidCost(m.Code)
	if len(m.Code) > 0 && (cost == 0 || m.Cost == 0) || cost != m.Cost {
		return whole(api.ErrCode)
	}
	return api.Fault{}
}

// saidThere looks for each cell by itself.
func saidThere(cells int, first int64, count int) bool {
	for k := range count {
		if cell := first + int64(k); cell < 0 || cell >= int64(cells) {
			return false
		}
	}
	return true
}

// saidRegisters are the registers that an instruction names.
func saidRegisters(i api.Ins) []int {
	var list []int
	if i.Op != api.IEnd {
		list = append(list, i.R)
	}
	for _, op := range []int{api.ILoadX, api.IStoreX, api.IUn, api.IBin, api.ISel, api.IMove} {
		if i.Op == op {
			list = append(list, i.A)
		}
	}
	if i.Op == api.IBin || i.Op == api.ISel {
		list = append(list, i.B)
	}
	return list
}

func saidIns(m api.Image, i api.Ins) bool {
	if i.Op < 1 || i.Op > 11 {
		return false
	}
	for _, register := range saidRegisters(i) {
		if register < 0 || register >= m.Regs {
			return false
		}
	}
	switch i.Op {
	case api.ILoad, api.IStore:
		return saidThere(m.Cells, i.N, 1)
	case api.ILoadX, api.IStoreX:
		return i.B >= 1 && saidThere(m.Cells, i.N, i.B)
	case api.IUn:
		return i.K == api.KNeg || i.K == api.KNot
	case api.IBin:
		return i.K >= api.KAdd && i.K <= api.KXor
	case api.ILoop:
		return 1 <= i.N && i.N <= 300
	}
	return true
}
