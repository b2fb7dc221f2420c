package vm

import (
	"loomwork/api"
	"loomwork/sys"
)

// run is a row while it is done. Its cells are its own: those of the VM must stay, if
// the row turns out to have a fault.
type run struct {
	code      []api.Ins
	cells     []int64
	registers [api.MaxRegs]int64
	at        int   // the number of the instruction that is done
	done      int   // how many have been done ahead of it
	loop      int   // the number of the last ILoop
	turn      int64 // of that loop; kept beside its register, into which may be written
}

// put: if a cell stands there twice, the later one counts.
func (r *run) put(in []int64, cells []int) {
	for i, cell := range cells {
		r.cells[cell] = in[i]
	}
}

func (r *run) told(cells []int) []int64 {
	told := make([]int64, 0, len(cells))
	for _, cell := range cells {
		told = append(told, r.cells[cell])
	}
	return told
}

// toEnd does the code; it tells whether it came to the end, or else stays at the
// instruction that could not be done.
func (r *run) toEnd() bool {
	for r.at < len(r.code) {
		if !r.do(&r.code[r.at]) {
			return false
		}
		r.done++
		r.at++
	}
	return true
}

// do does an instruction, and tells whether it could be done. Fields that an instruction
// does not have may be anything, so that they must not be looked at.
func (r *run) do(i *api.Ins) bool {
	switch x := &r.registers; i.Op {
	case api.INum:
		x[i.R] = i.N
	case api.ILoad:
		x[i.R] = r.cells[i.N]
	case api.IStore:
		r.cells[i.N] = x[i.R]
	case api.ILoadX, api.IStoreX:
		return r.doWithin(i)
	case api.IUn:
		x[i.R] = sys.Apply(i.K, x[i.A], 0)
	case api.IBin:
		x[i.R] = sys.Apply(i.K, x[i.A], x[i.B])
	case api.ISel:
		x[i.R] = r.chosen(i)
	case api.IMove:
		x[i.R] = x[i.A]
	case api.ILoop:
		r.loop, r.turn = r.at, 0
		x[i.R] = 0
	case api.IEnd:
		r.turnAgain()
	}
	return true
}

// doWithin does an ILoadX or an IStoreX, if the place is within its cells.
func (r *run) doWithin(i *api.Ins) bool {
	place := r.registers[i.A]
	if place < 0 || place >= int64(i.B) {
		return false
	}
	register, cell := &r.registers[i.R], &r.cells[i.N+place]
	if i.Op == api.ILoadX {
		*register = *cell
	} else {
		*cell = *register
	}
	return true
}

func (r *run) chosen(i *api.Ins) int64 {
	if r.registers[i.R] != 0 {
		return r.registers[i.A]
	}
	return r.registers[i.B]
}

// turnAgain goes back to the loop's begin, if it has turns left.
func (r *run) turnAgain() {
	loop := &r.code[r.loop]
	r.turn++
	if r.turn < loop.N {
		r.registers[loop.R] = r.turn
		r.at = r.loop
	}
}
