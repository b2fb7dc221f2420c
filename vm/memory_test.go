package vm

import (
	"fmt"
	"reflect"
	"slices"
	"sync"
	"testing"

	"loomwork/api"
)

// whole answers a list with what lies behind its length.
func whole[T any](l []T) []T { return l[:cap(l)] }

// spare copies a list into one that has room behind its length, with something there.
func spare[T any](list []T, behind T) []T {
	long := append(make([]T, 0, len(list)+3), list...)
	for i := len(list); i < cap(long); i++ {
		whole(long)[i] = behind
	}
	return long
}

// copied is an image in memory of its own, with a number behind each list.
func copied(m api.Image, behind int) api.Image {
	m.Put, m.Bools, m.Get = spare(m.Put, behind), spare(m.Bools, behind), spare(m.Get, behind)
	m.Code = spare(m.Code, api.Ins{Op: behind, R: behind, N: int64(behind)})
	return m
}

// listsOf answers each list of an image, with what lies behind it.
func listsOf(m api.Image) []any {
	return []any{whole(m.Put), whole(m.Bools), whole(m.Get), whole(m.Code)}
}

// fill puts something else into all the memory that a list has.
func fill[T any](list []T, with T) {
	for i := range whole(list) {
		whole(list)[i] = with
	}
}

func writeOver(m api.Image) {
	for _, list := range [][]int{m.Put, m.Bools, m.Get} {
		fill(list, -7)
	}
	fill(m.Code, api.Ins{Op: -7, R: -7, N: -7})
}

// 'What holds everywhere': what is handed in stays as it was, and what lies behind the
// lists is neither read nor written.
func TestHandedIn(t *testing.T) {
	for i := range 4000 {
		m, d := thrown(i, 14, 8), dice(i)
		rows := thrownRows(&d, m, 4)
		for _, behind := range []int{0, 1, api.ILoop, api.IEnd, -1, greatest} {
			given, kept := copied(m, behind), copied(m, behind)
			v, a := begun(t, "given", given), taleOf(m)
			for _, row := range rows {
				in, before := spare(row, int64(behind)), spare(row, int64(behind))
				told, fault := v.Row(in)
				want, wrong := a.row(row)
				wantSame(t, fmt.Sprint("thrown ", i), []any{told, fault}, []any{want, wrong})
				if !slices.Equal(whole(in), whole(before)) {
					t.Fatalf("thrown %d: the row was changed", i)
				}
			}
			wantBeen(t, fmt.Sprint("thrown ", i), v, a.steps, a.cells())
			if !reflect.DeepEqual(listsOf(given), listsOf(kept)) || t.Failed() {
				t.Fatalf("thrown %d: the image was changed", i)
			}
		}
	}
}

// 'What holds everywhere': what is handed in is not kept, and what is answered is new
// memory: both may be changed as one likes.
func TestKept(t *testing.T) {
	for i := range 8000 {
		m, d := thrown(i, 14, 8), dice(i)
		given, a := copied(m, 1), taleOf(m)
		v := begun(t, "given", given)
		writeOver(given)
		var all, wants [][]int64
		for _, row := range thrownRows(&d, m, 5) {
			in := spare(row, 3)
			want, wrong := a.row(row)
			told, fault := v.Row(in)
			wantSame(t, fmt.Sprint("thrown ", i), []any{told, fault}, []any{want, wrong})
			fill(in, -77)
			wantBeen(t, fmt.Sprint("thrown ", i), v, a.steps, a.cells())
			cells := v.Cells()
			fill(cells, -79)
			if i%2 == 0 {
				fill(told, -78)
			}
			wantBeen(t, fmt.Sprint("thrown ", i), v, a.steps, a.cells())
			all, wants = append(all, told), append(wants, want)
		}
		if i%2 == 1 {
			wantSame(t, fmt.Sprint("thrown ", i, " later"), all, wants)
		}
		if t.Failed() {
			t.FailNow()
		}
	}
}

// 'What holds everywhere': an image that was handed in may be changed between rows, list by
// list.
func TestChanged(t *testing.T) {
	for what, change := range map[string]func(m api.Image){
		"nothing":     func(m api.Image) {},
		"Put":         func(m api.Image) { m.Put[0], m.Put[1] = 1, 0 },
		"Bools":       func(m api.Image) { m.Bools[0] = 0 },
		"Get":         func(m api.Image) { m.Get[0] = 5 },
		"a cell":      func(m api.Image) { m.Code[3].N = 4 },
		"a number":    func(m api.Image) { m.Code[4].N = 77 },
		"an Op":       func(m api.Image) { m.Code[2].Op = api.INum },
		"an operator": func(m api.Image) { m.Code[2].K = api.KMul },
		"turns":       func(m api.Image) { m.Code[5].N = 1 },
		"all code":    func(m api.Image) { slices.Reverse(m.Code) },
		"all":         writeOver,
	} {
		m := copied(image(6, "0 1 : 1 > 2 3 4 5", "load 0 0; load 1 1; add 0 0 1; store 0 2; num 2 1; loop 3 3; add 2 2 2; storex 2 3 3 3; end"), 1)
		v := begun(t, what, m)
		change(m)
		wantRow(t, what, v, "5 1 > 6 2 4 8")
		change(m)
		wantRow(t, what, v, "6 2 ! 17 1")
		wantRow(t, what, v, "7 0 > 7 2 4 8")
	}
}

// 'What holds everywhere': lists of an image that share memory.
func TestShared(t *testing.T) {
	list := []int{0, 1, 2, 1, 0}
	m := withCode(api.Image{Cells: 3, Put: list[:3], Bools: list[1:2], Get: list}, instructions("load 0 0; load 1 2; sub 0 0 1; store 0 2")...)
	wantRows(t, "shared", m, "5 1 7 > 5 1 -2 1 5", "5 2 7 ! 17 1", "1 0 -1 > 1 0 2 0 1")
	wantSame(t, "what was handed in", list, []int{0, 1, 2, 1, 0})
	code := instructions("load 0 0; add 0 0 0; store 0 0; add 0 0 0; store 0 1")
	front := begun(t, "the front", withCode(api.Image{Cells: 2, Put: []int{0}, Get: []int{0, 1}}, code[:3]...))
	all := begun(t, "all", withCode(api.Image{Cells: 2, Put: []int{0}, Get: []int{0, 1}}, code...))
	wantRow(t, "the front", front, "3 > 6 0")
	wantRow(t, "all", all, "3 > 6 12")
}

// 'What holds everywhere': what is told is not what was given, nor the cells, nor what was
// told ahead.
func TestToldApart(t *testing.T) {
	v := begun(t, "apart", image(3, "0 1 2 > 0 1 2", ""))
	in := numbers("4 5 6")
	first, _ := v.Row(in)
	cells, again := v.Cells(), v.Cells()
	fill(in, 9)
	wantSame(t, "told", first, numbers("4 5 6"))
	fill(first, 8)
	wantSame(t, "cells", cells, numbers("4 5 6"))
	fill(again, 3)
	wantSame(t, "cells", cells, numbers("4 5 6"))
	wantBeen(t, "cells", v, 0, numbers("4 5 6"))
	second, _ := v.Row(numbers("1 2 3"))
	wantSame(t, "told ahead", first, numbers("8 8 8"))
	wantSame(t, "cells ahead", cells, numbers("4 5 6"))
	fill(cells, 7)
	wantSame(t, "told", second, numbers("1 2 3"))
	wantBeen(t, "cells", v, 0, numbers("1 2 3"))
	_, _ = append(second, 5), append(v.Cells(), 5)
	third, _ := v.Row(numbers("7 8 9"))
	wantSame(t, "told ahead", second, numbers("1 2 3"))
	wantSame(t, "told", third, numbers("7 8 9"))
}

// 'What holds everywhere': what was told ahead of a row with a fault stays, too.
func TestToldAheadOfFaults(t *testing.T) {
	v := begun(t, "ahead", image(3, "0 1 > 0 1 2", "load 0 0; load 1 1; storex 1 0 1 2"))
	first, _ := v.Row(numbers("1 8"))
	cells := v.Cells()
	for _, row := range []string{"2 9 ! 16 2", "0 ! 17 -1", "-1 9 ! 16 2"} {
		wantRow(t, "a fault", v, row)
		wantSame(t, "told ahead", []any{first, cells}, []any{numbers("1 8 8"), numbers("1 8 8")})
	}
}

// P18: two VMs of one image know nothing of each other.
func TestTwoMachines(t *testing.T) {
	m := image(2, "0 > 1", "load 0 0; load 1 1; add 0 0 1; store 0 1")
	first, other := begun(t, "the first", m), begun(t, "the other", m)
	wantRow(t, "the first", first, "1 > 1")
	wantRow(t, "the first", first, "2 > 3")
	wantBeen(t, "the other", other, 0, numbers("0 0"))
	wantRow(t, "the other", other, "7 > 7")
	wantRow(t, "the first", first, "3 > 6")
	wantRow(t, "the other", other, "! 17 -1")
	wantRow(t, "the other", other, "8 > 15")
	wantBeen(t, "the first", first, 12, numbers("3 6"))
	wantRow(t, "a third", begun(t, "a third", m), "5 > 5")
	for i := range 2000 {
		m, d := thrown(i, 14, 8), dice(i)
		var machines []*VM
		var tales []*tale
		for range 3 {
			machines, tales = append(machines, begun(t, "one of three", m)), append(tales, taleOf(m))
		}
		for range 9 {
			at, row := d.below(3), thrownRows(&d, m, 1)[0]
			told, fault := machines[at].Row(row)
			want, wrong := tales[at].row(row)
			wantSame(t, fmt.Sprint("thrown ", i), []any{told, fault}, []any{want, wrong})
		}
		for at := range machines {
			wantBeen(t, fmt.Sprint("thrown ", i), machines[at], tales[at].steps, tales[at].cells())
		}
	}
}

// P1: what is answered hangs on the image, and on the rows ahead, alone.
func TestAtOnce(t *testing.T) {
	type asked struct {
		api.Image
		rows  [][]int64
		wants []string
	}
	var all []asked
	for i := range 300 {
		m, d := thrown(i, 40, 20), dice(i)
		a, said := asked{Image: m, rows: thrownRows(&d, m, 4)}, taleOf(m)
		for _, row := range a.rows {
			told, fault := said.row(row)
			a.wants = append(a.wants, plain([]any{told, fault, said.cells(), said.steps}))
		}
		all = append(all, a)
	}
	var group sync.WaitGroup
	for range 4 {
		group.Go(func() {
			for i, a := range all {
				v, _ := New(a.Image)
				for at, row := range a.rows {
					told, fault := v.Row(row)
					if got := plain([]any{told, fault, v.Cells(), v.Steps()}); got != a.wants[at] {
						t.Errorf("image %d: %v, want %v", i, got, a.wants[at])
					}
				}
			}
		})
	}
	group.Wait()
}
