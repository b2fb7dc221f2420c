package place

import (
	"fmt"
	"slices"
	"testing"

	"loomwork/api"
	"loomwork/fuse"
	"loomwork/mean"
	"loomwork/sys"
)

// arena runs the rules of a system in its normal form on the cells of its plan alone:
// each cell is written as soon as it is made.
type arena struct {
	api.System
	api.Plan
	cells []int64
}

func (a *arena) row(in []int64) []int64 {
	for _, variable := range a.In {
		in = in[copy(a.of(variable), in):]
	}
	for number, r := range a.Rules {
		a.run(number, r)
	}
	for number, r := range a.Rules {
		if r.Op == api.QPre {
			copy(a.kept(number), a.of(r.A[1]))
		}
	}
	a.cells[0] = 1
	var told []int64
	for _, variable := range a.Out {
		told = append(told, a.of(variable)...)
	}
	return told
}

func (a *arena) of(variable int) []int64 {
	return a.cells[a.At[variable]:][:cellsOf(a.System, variable)]
}

func (a *arena) kept(number int) []int64 {
	return a.cells[a.Keep[number]:][:cellsOf(a.System, a.Rules[number].Out)]
}

func (a *arena) run(number int, r api.Rule) {
	out := a.of(r.Out)
	switch r.Op {
	case api.QEach:
		for k := range out {
			out[k] = a.tree(r.E, k)
		}
	case api.QFoldE:
		out[0] = a.of(r.A[0])[0]
		for k := range int(r.N) {
			out[0] = sys.Apply(r.K, out[0], a.tree(r.E, k))
		}
	case api.QScanE:
		sum := a.of(r.A[0])[0]
		for k := range out {
			sum = sys.Apply(r.K, sum, a.tree(r.E, k))
			out[k] = sum
		}
	case api.QCat:
		first, then := a.of(r.A[0]), a.of(r.A[1])
		for k := range out {
			if k < len(first) {
				out[k] = first[k]
			} else {
				out[k] = then[k-len(first)]
			}
		}
	case api.QPre:
		from := a.kept(number)
		if a.cells[0] == 0 {
			from = a.of(r.A[0])
		}
		for k := range out {
			out[k] = from[k]
		}
	}
}

func (a *arena) tree(steps []api.Push, k int) int64 {
	var stack []int64
	pop := func() int64 {
		top := stack[len(stack)-1]
		stack = stack[:len(stack)-1]
		return top
	}
	for _, p := range steps {
		var value int64
		switch p.Op {
		case api.PNum:
			value = p.N
		case api.PSca:
			value = a.of(p.V)[0]
		case api.PArr:
			value = a.of(p.V)[k+int(p.N)]
		case api.PIdx:
			value = int64(k) + p.N
		case api.PUn:
			value = sys.Apply(p.K, pop(), 0)
		case api.PBin:
			second := pop()
			value = sys.Apply(p.K, pop(), second)
		case api.PSel:
			second, first := pop(), pop()
			value = second
			if pop() != 0 {
				value = first
			}
		case api.PAt:
			value = pop()
			if place := pop(); place >= 0 && place < int64(len(a.of(p.V))) {
				value = a.of(p.V)[place]
			}
		}
		stack = append(stack, value)
	}
	return pop()
}

// wantSameRows runs a system in its arena, and asks for what it means.
func wantSameRows(t *testing.T, what string, s api.System, d *dice) {
	t.Helper()
	plan, fault := Make(s)
	wantSame(t, what+": fault", fault, api.Fault{})
	a := arena{System: s, Plan: plan, cells: make([]int64, plan.Cells)}
	m, _ := mean.New(s)
	for number := range 4 {
		var in []int64
		for _, variable := range s.In {
			for range cellsOf(s, variable) {
				value := int64(d.below(9) - 2)
				if s.Vars[variable].Elem == 'b' {
					value = int64(d.below(2))
				}
				in = append(in, value)
			}
		}
		want, fault := m.Row(in)
		if got := a.row(in); fault.Code != 0 || !slices.Equal(got, want) {
			t.Fatalf("%s, row %d: %v, fault %v, want %v; %v of %v", what, number, got, fault, want, plan, s)
		}
	}
}

// P13, 'What follows': nothing is lost: on the plan's cells a system makes of rows what it
// means.
func TestNothingLost(t *testing.T) {
	d := dice(3)
	over := 0
	for i := range 6000 {
		normal, _ := fuse.Norm(sortedThrown(i, 16))
		for _, variable := range normal.Rules {
			if d.below(4) == 0 {
				normal.Out = append(normal.Out, variable.Out)
			}
		}
		wantSameRows(t, fmt.Sprint("thrown ", i), normal, &d)
		fused, _ := fuse.Fuse(normal)
		wantSameRows(t, fmt.Sprint("thrown ", i, ", fused"), fused, &d)
		plan, _ := Make(normal)
		over += overCount(normal, plan)
	}
	if over < 2000 {
		t.Errorf("%d were made over another one", over)
	}
}
