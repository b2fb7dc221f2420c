package vm

import (
	"fmt"
	"maps"
	"slices"
	"testing"

	"loomwork/api"
	"loomwork/sys"
)

// act is an instruction as it is done once.
type act struct {
	at int
	api.Ins
}

// saidActs are a row's acts, one behind the other: those of a loop stand there as often as
// it turns, and an ILoop, or an IEnd that goes back, says what its register becomes.
func saidActs(l []api.Ins) []act {
	var acts []act
	for at := 0; at < len(l); at++ {
		i := l[at]
		if i.Op != api.ILoop {
			acts = append(acts, act{at, i})
			continue
		}
		end := at + slices.IndexFunc(l[at:], func(i api.Ins) bool { return i.Op == api.IEnd })
		acts = append(acts, act{at, api.Ins{Op: api.INum, R: i.R}})
		for turn := int64(1); turn <= i.N; turn++ {
			for within := at + 1; within < end; within++ {
				acts = append(acts, act{within, l[within]})
			}
			back := act{end, api.Ins{Op: api.INum, R: i.R, N: turn}}
			if turn == i.N {
				back.Ins = api.Ins{Op: api.IEnd}
			}
			acts = append(acts, back)
		}
		at = end
	}
	return acts
}

// tale is what an image's rows come to, by the chapter's words. What a map does not have
// is 0.
type tale struct {
	api.Image
	acts  []act
	was   map[int]int64 // the cells behind the last row
	steps int
}

func taleOf(m api.Image) *tale { return &tale{Image: m, acts: saidActs(m.Code), was: map[int]int64{}} }

func (a *tale) cells() []int64 {
	list := make([]int64, a.Cells)
	for cell, n := range a.was {
		list[cell] = n
	}
	return list
}

// row is what a row tells, or its fault.
func (a *tale) row(in []int64) ([]int64, api.Fault) {
	if len(in) != len(a.Put) {
		return nil, api.Fault{Code: api.ErrRow, At: -1}
	}
	cells := maps.Clone(a.was)
	for place, n := range in {
		if isTruth := n == 0 || n == 1; !isTruth && slices.Contains(a.Bools, a.Put[place]) {
			return nil, api.Fault{Code: api.ErrRow, At: place}
		}
		cells[a.Put[place]] = n
	}
	registers := map[int]int64{}
	for _, one := range a.acts {
		if !saidDone(cells, registers, one.Ins) {
			return nil, api.Fault{Code: api.ErrRange, At: one.at}
		}
	}
	a.was, a.steps = cells, a.steps+len(a.acts)
	var told []int64
	for _, cell := range a.Get {
		told = append(told, cells[cell])
	}
	return told, api.Fault{}
}

// saidDone does an instruction, if it can be done.
func saidDone(cells, registers map[int]int64, i api.Ins) bool {
	r, a, b := registers[i.R], registers[i.A], registers[i.B]
	switch i.Op {
	case api.INum:
		registers[i.R] = i.N
	case api.ILoad:
		registers[i.R] = cells[int(i.N)]
	case api.IStore:
		cells[int(i.N)] = r
	case api.ILoadX, api.IStoreX:
		for place := range i.B {
			if cell := int(i.N) + place; int64(place) == a && i.Op == api.ILoadX {
				registers[i.R] = cells[cell]
				return true
			} else if int64(place) == a {
				cells[cell] = r
				return true
			}
		}
		return false
	case api.IUn:
		registers[i.R] = sys.Apply(i.K, a, 99)
	case api.IBin:
		registers[i.R] = sys.Apply(i.K, a, b)
	case api.ISel:
		registers[i.R] = b
		if r != 0 {
			registers[i.R] = a
		}
	case api.IMove:
		registers[i.R] = a
	}
	return true
}

// holdAgainstSaid gives rows to an image, and holds what they tell, their faults, the
// cells and the steps against the chapter's words. It counts how often each code came.
func holdAgainstSaid(t *testing.T, what string, m api.Image, rows [][]int64) map[int]int {
	t.Helper()
	v, a, codes := begun(t, what, m), taleOf(m), map[int]int{}
	for number, row := range rows {
		name := fmt.Sprint(what, ", row ", number)
		told, fault := a.row(row)
		codes[fault.Code]++
		if fault.Code == 0 {
			wantTold(t, name, v, m.Cost, row, told)
		} else {
			wantNot(t, name, v, row, fault.Code, fault.At)
		}
		wantBeen(t, name, v, a.steps, a.cells())
	}
	return codes
}
