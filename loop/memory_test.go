package loop

import (
	"fmt"
	"reflect"
	"slices"
	"sync"
	"testing"

	"loomwork/api"
)

// whole answers a list with what lies behind its length.
func whole[T any](l []T) []T { return l[:cap(l)] }

// spare copies a list into one that has room behind its length, with something
// there.
func spare[T any](list []T, behind T) []T {
	long := append(make([]T, 0, len(list)+3), list...)
	for i := len(list); i < cap(long); i++ {
		whole(long)[i] = behind
	}
	return long
}

// copied is loops in memory of their own, with a number behind each list.
func copied(l api.Loops, behind int) api.Loops {
	l.Put, l.Get = spare(l.Put, behind), spare(l.Get, behind)
	l.Steps = spare(l.Steps, api.Loop{Op: api.LOne, To: behind})
	for i := range l.Steps {
		s := &l.Steps[i]
		s.F, s.E = spare(s.F, sca(behind)), spare(s.E, sca(behind))
	}
	return l
}

// listsOf answers each list of loops, with what lies behind it.
func listsOf(l api.Loops) []any {
	all := []any{whole(l.Put), whole(l.Get), whole(l.Steps)}
	for _, s := range l.Steps {
		all = append(all, whole(s.F), whole(s.E))
	}
	return all
}

// fill puts something else into all the memory that a list has.
func fill[T any](list []T, with T) {
	for i := range whole(list) {
		whole(list)[i] = with
	}
}

func writeOver(l api.Loops) {
	for _, s := range l.Steps {
		fill(s.F, api.Push{Op: -7})
		fill(s.E, api.Push{Op: -7})
	}
	fill(l.Put, -7)
	fill(l.Get, -7)
	fill(l.Steps, api.Loop{Op: -7})
}

// 'What holds everywhere': what is handed in stays as it was, and what lies behind the
// lists is neither read nor written.
func TestHandedIn(t *testing.T) {
	for i := range 1500 {
		l, d := thrown(i, 5), dice(i)
		rows := thrownRows(&d, l, 3)
		for _, behind := range []int{0, -1, greatest} {
			given, kept := copied(l, behind), copied(l, behind)
			m, a := wantRight(t, fmt.Sprint("thrown ", i), given), &tale{Loops: l}
			for _, row := range rows {
				in, before := spare(row, int64(behind)), spare(row, int64(behind))
				wantTold(t, fmt.Sprint("thrown ", i), m, in, a.row(row))
				if !slices.Equal(whole(in), whole(before)) {
					t.Fatalf("thrown %d: the row was changed", i)
				}
			}
			if !reflect.DeepEqual(listsOf(given), listsOf(kept)) {
				t.Fatalf("thrown %d: the loops were changed", i)
			}
		}
	}
}

// 'What holds everywhere': what is handed in is not kept, and what is answered is new
// memory: both may be changed as one likes.
func TestKept(t *testing.T) {
	for i := range 3000 {
		l, d := thrown(i, 5), dice(i)
		rows := thrownRows(&d, l, 5)
		given, a := copied(l, 2), &tale{Loops: l}
		m := begun(t, given)
		writeOver(given)
		var all, wants [][]int64
		for _, row := range rows {
			in, want := spare(row, 3), a.row(row)
			told, fault := m.Row(in)
			wantSame(t, fmt.Sprint("thrown ", i), []any{told, fault}, []any{want, api.Fault{}})
			fill(in, -77)
			cells := m.Cells()
			wantSame(t, fmt.Sprint("thrown ", i, " cells"), cells, a.cells())
			fill(cells, -79)
			if i%2 == 0 {
				fill(told, -78)
			}
			all, wants = append(all, told), append(wants, want)
		}
		if i%2 == 1 {
			wantSame(t, fmt.Sprint("thrown ", i, " later"), all, wants)
		}
		if t.Failed() {
			t.FailNow()
		}
	}
}

// 'What holds everywhere': loops that were handed in may be changed between rows, list by
// list.
func TestChanged(t *testing.T) {
	right := func() api.Loops {
		return copied(over(6, "0 1 > 2 3 5", one(2, "c0 c1 add"), fold(api.KAdd, 3, 2, "c2", "a0"), scan(api.KMul, 4, 2, "c1", "k2")), 1)
	}
	for what, change := range map[string]func(l api.Loops){
		"nothing": func(l api.Loops) {},
		"Put":     func(l api.Loops) { l.Put[0], l.Put[1] = 1, 0 },
		"Get":     func(l api.Loops) { l.Get[0] = 5 },
		"a step":  func(l api.Loops) { l.Steps[0].To = 5 },
		"steps":   func(l api.Loops) { slices.Reverse(l.Steps) },
		"E":       func(l api.Loops) { l.Steps[0].E[0] = num(77) },
		"E again": func(l api.Loops) { l.Steps[2].E[0] = num(77) },
		"F":       func(l api.Loops) { l.Steps[1].F[0] = num(77) },
		"F again": func(l api.Loops) { l.Steps[2].F[0] = num(77) },
	} {
		l := right()
		m := begun(t, l)
		change(l)
		wantRow(t, what, m, "3 4 > 7 14 24")
		change(l)
		wantRow(t, what, m, "1 2 > 3 6 12")
	}
}

// 'What holds everywhere': lists of loops that share memory.
func TestShared(t *testing.T) {
	list := []int{0, 1, 2, 1, 0}
	steps := tree("c0 a1 add 2 mul")
	l := api.Loops{Cells: 6, Put: list[:3], Get: list, Steps: []api.Loop{
		{Op: api.LOne, To: 3, E: steps[:3], F: steps[2:]},
		{Op: api.LFold, K: api.KAdd, N: 2, To: 4, E: steps[:3], F: steps[:1]},
		{Op: api.LScan, K: api.KAdd, N: 1, To: 2, E: steps, F: steps},
		{Op: api.LEach, N: 2, To: 0, E: steps[1:2]},
	}}
	m := wantRows(t, "shared", l, "5 6 7 > 6 44 44 44 6")
	wantSame(t, "shared: cells", m.Cells(), numbers("6 44 44 11 28 0"))
	wantSame(t, "what was handed in", steps, tree("c0 a1 add 2 mul"))
}

// 'What holds everywhere': what is told is not what was given, nor the cells.
func TestToldApart(t *testing.T) {
	m := begun(t, over(3, "0 1 2 > 0 1 2"))
	in := numbers("4 5 6")
	first, _ := m.Row(in)
	cells := m.Cells()
	fill(in, 9)
	wantSame(t, "told", first, numbers("4 5 6"))
	wantSame(t, "cells", m.Cells(), numbers("4 5 6"))
	fill(first, 8)
	wantSame(t, "cells", cells, numbers("4 5 6"))
	wantSame(t, "cells", m.Cells(), numbers("4 5 6"))
	second, _ := m.Row(numbers("1 2 3"))
	wantSame(t, "told ahead", first, numbers("8 8 8"))
	wantSame(t, "cells ahead", cells, numbers("4 5 6"))
	fill(cells, 7)
	wantSame(t, "told", second, numbers("1 2 3"))
	wantSame(t, "cells", m.Cells(), numbers("1 2 3"))
}

// P14: two machines of the same loops know nothing of each other.
func TestTwoMachines(t *testing.T) {
	l := over(2, "0 > 1", one(1, "c0 c1 add"))
	first, other := begun(t, l), begun(t, l)
	wantRow(t, "the first", first, "1 > 1")
	wantRow(t, "the first", first, "2 > 3")
	wantSame(t, "the other one's cells", other.Cells(), numbers("0 0"))
	wantRow(t, "the other", other, "7 > 7")
	wantRow(t, "the first", first, "3 > 6")
	wantRow(t, "the other", other, "!")
	wantRow(t, "the other", other, "8 > 15")
	wantSame(t, "the first one's cells", first.Cells(), numbers("3 6"))
	wantRow(t, "a third", begun(t, l), "5 > 5")
	for i := range 1000 {
		l, d := thrown(i, 5), dice(i)
		machines, tales := []*Machine{}, []*tale{}
		for range 3 {
			machines, tales = append(machines, begun(t, l)), append(tales, &tale{Loops: l})
		}
		for range 9 {
			at, row := d.below(3), thrownRows(&d, l, 1)[0]
			wantTold(t, fmt.Sprint("thrown ", i), machines[at], row, tales[at].row(row))
		}
		for at := range machines {
			wantSame(t, fmt.Sprint("thrown ", i), machines[at].Cells(), tales[at].cells())
		}
	}
}

// P1: what is answered hangs on the arguments, and on the rows ahead, alone.
func TestAtOnce(t *testing.T) {
	type asked struct {
		api.Loops
		rows, wants [][]int64
	}
	var all []asked
	for i := range 300 {
		l, d := thrown(i, 6), dice(i)
		a, told := asked{Loops: l, rows: thrownRows(&d, l, 4)}, &tale{Loops: l}
		for _, row := range a.rows {
			a.wants = append(a.wants, told.row(row))
		}
		all = append(all, a)
	}
	var group sync.WaitGroup
	for range 4 {
		group.Go(func() {
			for i, a := range all {
				m, _ := New(a.Loops)
				for at, row := range a.rows {
					if told, fault := m.Row(row); fault.Code != 0 || !slices.Equal(told, a.wants[at]) {
						t.Errorf("loops %d: %v, fault %v, want %v", i, told, fault, a.wants[at])
					}
				}
			}
		})
	}
	group.Wait()
}
