package sys

import (
	"bytes"

	"loomwork/api"
	"loomwork/kinds"
)

const mostOfIndex = 1000000 // N of a step PIdx lies no farther from 0

// madeByTree answers the Elem that the steps make in each of so many cells; 0: they
// are no tree for these. The stack is the Elems of what lies on it.
func (l *look) madeByTree(steps []api.Push, cells int) byte {
	var stack []byte
	for _, p := range steps {
		takes, makes := l.effect(p, cells, stack)
		if makes == 0 || !bytes.HasSuffix(stack, takes) {
			return 0
		}
		stack = append(stack[:len(stack)-len(takes)], makes)
	}
	if len(stack) != 1 {
		return 0
	}
	return stack[0]
}

// effect answers what a step must find on top of the stack, the lowest first, and
// what it makes of it; 0: it cannot stand there.
func (l *look) effect(p api.Push, cells int, stack []byte) (takes []byte, makes byte) {
	switch p.Op {
	case api.PNum:
		return nil, madeByNumber(p)
	case api.PSca, api.PArr:
		return nil, madeByVariable(p, l.Vars[p.V], cells)
	case api.PIdx:
		return nil, when(p.N >= -mostOfIndex && p.N <= mostOfIndex, 'i')
	case api.PUn, api.PBin:
		return effectOfOperator(p)
	case api.PSel:
		return effectOfChoice(stack)
	case api.PAt:
		array := l.Vars[p.V]
		return []byte{'i', array.Elem}, when(isArray(array), array.Elem)
	}
	return nil, 0
}

func when(isSo bool, elem byte) byte {
	if !isSo {
		return 0
	}
	return elem
}

func madeByNumber(p api.Push) byte {
	switch p.K {
	case 0:
		return 'i'
	case 1:
		return when(isTruth(p.N), 'b')
	}
	return 0
}

func madeByVariable(p api.Push, v api.Var, cells int) byte {
	if p.Op == api.PSca {
		return when(!isArray(v), v.Elem)
	}
	return when(isArray(v) && p.N >= 0 && p.N <= int64(v.N-cells), v.Elem)
}

func effectOfOperator(p api.Push) (takes []byte, makes byte) {
	elem, makes, n := kinds.Op(p.K)
	isFit := n == 1 && p.Op == api.PUn || n == 2 && p.Op == api.PBin
	return bytes.Repeat([]byte{elem}, n), when(isFit, makes)
}

// effectOfChoice: what lies on top tells what the choice is between.
func effectOfChoice(stack []byte) (takes []byte, makes byte) {
	if len(stack) == 0 {
		return nil, 0
	}
	top := stack[len(stack)-1]
	return []byte{'b', top, top}, top
}
