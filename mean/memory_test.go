package mean

import (
	"fmt"
	"reflect"
	"slices"
	"sync"
	"testing"

	"loomwork/api"
)

// whole answers a list with what lies behind its length.
func whole[T any](l []T) []T { return l[:cap(l)] }

// spare copies a list into one that has room behind its length, with something
// there.
func spare[T any](list []T, behind T) []T {
	long := append(make([]T, 0, len(list)+3), list...)
	for i := len(list); i < cap(long); i++ {
		whole(long)[i] = behind
	}
	return long
}

// copied is a system in memory of its own, with a number behind each list.
func copied(s api.System, behind int) api.System {
	s.Vars = spare(s.Vars, api.Var{Elem: 'i', N: behind})
	s.In, s.Out = spare(s.In, behind), spare(s.Out, behind)
	s.Rules = spare(s.Rules, api.Rule{Op: api.QNum, Out: behind})
	for i := range s.Rules {
		r := &s.Rules[i]
		r.A, r.E = spare(r.A, behind), spare(r.E, sca(behind))
	}
	return s
}

// listsOf answers each list of a system, with what lies behind it.
func listsOf(s api.System) []any {
	all := []any{whole(s.Vars), whole(s.In), whole(s.Out), whole(s.Rules)}
	for _, r := range s.Rules {
		all = append(all, whole(r.A), whole(r.E))
	}
	return all
}

// fill puts something else into all the memory that a list has.
func fill[T any](list []T, with T) {
	for i := range whole(list) {
		whole(list)[i] = with
	}
}

func writeOver(s api.System) {
	for _, r := range s.Rules {
		fill(r.A, -7)
		fill(r.E, api.Push{Op: -7})
	}
	fill(s.Vars, api.Var{Elem: '?', N: -7})
	fill(s.In, -7)
	fill(s.Out, -7)
	fill(s.Rules, api.Rule{Op: -7})
}

// 'What holds everywhere': what is handed in stays as it was, and what lies behind
// the lists is neither read nor written.
func TestHandedIn(t *testing.T) {
	for i := range 1500 {
		s, d := thrown(i, 6), dice(i)
		rows := thrownRows(&d, s, 3)
		h := historyOf(s, rows...)
		for _, behind := range []int{0, -1, greatest} {
			given, kept := copied(s, behind), copied(s, behind)
			m := begun(t, given)
			wantSame(t, "Width", Width(given, given.In), len(rows[0]))
			for at, row := range rows {
				in, before := spare(row, int64(behind)), spare(row, int64(behind))
				wantTold(t, fmt.Sprint("thrown ", i), m, in, h.told(at))
				if !slices.Equal(whole(in), whole(before)) {
					t.Fatalf("thrown %d: the row was changed", i)
				}
			}
			if !reflect.DeepEqual(listsOf(given), listsOf(kept)) {
				t.Fatalf("thrown %d: the system was changed", i)
			}
		}
	}
}

// 'What holds everywhere': what is handed in is not kept, and what is answered is
// new memory: both may be changed as one likes.
func TestKept(t *testing.T) {
	for i := range 3000 {
		s, d := thrown(i, 6), dice(i)
		rows := thrownRows(&d, s, 5)
		h := historyOf(s, rows...)
		given := copied(s, 2)
		m := begun(t, given)
		writeOver(given)
		var all [][]int64
		for at, row := range rows {
			in := spare(row, 3)
			told, fault := m.Row(in)
			wantSame(t, fmt.Sprint("thrown ", i), []any{told, fault}, []any{h.told(at), api.Fault{}})
			fill(in, -77)
			if i%2 == 0 {
				fill(told, -78)
			}
			all = append(all, told)
		}
		for at, told := range all {
			if i%2 == 1 {
				wantSame(t, fmt.Sprint("thrown ", i, " later"), told, h.told(at))
			}
		}
		if t.Failed() {
			t.FailNow()
		}
	}
}

// 'What holds everywhere': what is told is not what was given, nor what is kept for
// the next row.
func TestToldApart(t *testing.T) {
	s := over("i3 i3 > i3 i3", pre(2, 0, 1), rule(api.QCopy, 0, 3, 1))
	s.Out = []int{1, 2, 3}
	m := begun(t, s)
	in := cells("1 2 3 4 5 6")
	first, _ := m.Row(in)
	wantSame(t, "first", first, cells("4 5 6 1 2 3 4 5 6"))
	fill(first, 9)
	wantSame(t, "given", in, cells("1 2 3 4 5 6"))
	fill(in, 8)
	second, _ := m.Row(cells("0 0 0 7 7 7"))
	wantSame(t, "second", second, cells("7 7 7 4 5 6 7 7 7"))
	fill(second, 9)
	wantRow(t, "third", m, "0 0 0 1 1 1 > 1 1 1 7 7 7 1 1 1")
	alone := begun(t, api.System{Vars: types("i2"), In: []int{0}, Out: []int{0}})
	in = cells("5 6")
	told, _ := alone.Row(in)
	if &told[0] == &in[0] {
		t.Error("what was given was handed back")
	}
}

// 'What holds everywhere': lists of a system that share memory.
func TestShared(t *testing.T) {
	list := []int{0, 1, 0, 1, 0}
	steps := []api.Push{sca(0), sca(1), bin(api.KSub), un(api.KNeg)}
	s := api.System{Vars: types("i i i i i i"), In: list[:2], Out: list, Rules: []api.Rule{
		{Op: api.QBin, K: api.KSub, Out: 2, A: list[:2], E: steps},
		{Op: api.QBin, K: api.KSub, Out: 3, A: list[1:3]},
		{Op: api.QPre, Out: 4, A: list[1:3]},
		{Op: api.QEach, Out: 5, A: list[2:2], E: steps[:3]},
	}}
	told := s
	told.Out = []int{2, 3, 4, 5, 0, 1}
	wantRows(t, "shared", told, "9 4 > 5 -5 4 5 9 4", "1 2 > -1 1 9 -1 1 2")
	wantRows(t, "told", s, "9 4 > 9 4 9 4 9")
}

// P9: two Means of one system know nothing of each other.
func TestTwoMeans(t *testing.T) {
	s := over("i > i i", pre(1, 0, 0), rule(api.QBin, api.KAdd, 2, 0, 1))
	one, other := begun(t, s), begun(t, s)
	wantRow(t, "one", one, "1 > 1 2")
	wantRow(t, "one", one, "2 > 1 3")
	wantRow(t, "the other", other, "7 > 7 14")
	wantRow(t, "one", one, "3 > 2 5")
	wantRow(t, "the other", other, "8 > 7 15")
	wantRow(t, "the other", other, "! -1")
	wantRow(t, "one", one, "4 > 3 7")
	wantRow(t, "a third", begun(t, s), "5 > 5 10")
	for i := range 1000 {
		s, d := thrown(i, 6), dice(i)
		means, given, told := []*Mean{begun(t, s), begun(t, s), begun(t, s)}, make([][][]int64, 3), make([][][]int64, 3)
		for range 9 {
			at, row := d.below(3), thrownRows(&d, s, 1)[0]
			list, _ := means[at].Row(row)
			given[at], told[at] = append(given[at], row), append(told[at], list)
		}
		for at := range means {
			h := historyOf(s, given[at]...)
			for row, list := range told[at] {
				wantSame(t, fmt.Sprint("thrown ", i), list, h.told(row))
			}
		}
	}
}

// P1: what is answered hangs on the arguments, and on the rows ahead, alone.
func TestAtOnce(t *testing.T) {
	type asked struct {
		api.System
		rows, wants [][]int64
	}
	var all []asked
	for i := range 200 {
		s, d := thrown(i, 8), dice(i)
		a := asked{System: s, rows: thrownRows(&d, s, 4)}
		h := historyOf(s, a.rows...)
		for at := range a.rows {
			a.wants = append(a.wants, h.told(at))
		}
		all = append(all, a)
	}
	var group sync.WaitGroup
	for range 4 {
		group.Go(func() {
			for i, a := range all {
				m, _ := New(a.System)
				for at, row := range a.rows {
					if told, fault := m.Row(row); fault.Code != 0 || !slices.Equal(told, a.wants[at]) {
						t.Errorf("system %d: %v, fault %v, want %v", i, told, fault, a.wants[at])
					}
				}
			}
		})
	}
	group.Wait()
}
