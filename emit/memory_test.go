package emit

import (
	"fmt"
	"reflect"
	"slices"
	"sync"
	"testing"

	"loomwork/api"
)

// whole answers a list with what lies behind its length.
func whole[T any](l []T) []T { return l[:cap(l)] }

// spare copies a list into one that has room behind its length, with something there.
func spare[T any](list []T, behind T) []T {
	long := append(make([]T, 0, len(list)+3), list...)
	for i := len(list); i < cap(long); i++ {
		whole(long)[i] = behind
	}
	return long
}

// asked is loops with bools, and what is answered of them.
type asked struct {
	api.Loops
	bools []int
}

func (a asked) answer() []any {
	m, fault := Make(a.Loops, a.bools)
	return []any{m, fault}
}

// copied is the same in memory of its own, with a number behind each list.
func (a asked) copied(behind int) asked {
	other := api.Push{Op: behind, V: behind}
	a.Put, a.Get, a.bools = spare(a.Put, behind), spare(a.Get, behind), spare(a.bools, behind)
	a.Steps = spare(a.Steps, api.Loop{Op: api.LOne, To: behind})
	for i := range a.Steps {
		s := &a.Steps[i]
		s.F, s.E = spare(s.F, other), spare(s.E, other)
	}
	return a
}

// lists answers each list, with what lies behind it.
func (a asked) lists() []any {
	all := []any{whole(a.Put), whole(a.Get), whole(a.bools), whole(a.Steps)}
	for _, s := range a.Steps {
		all = append(all, whole(s.F), whole(s.E))
	}
	return all
}

// fill puts something else into all the memory that a list has.
func fill[T any](list []T, with T) {
	for i := range whole(list) {
		whole(list)[i] = with
	}
}

func (a asked) writeOver() {
	for _, s := range a.Steps {
		fill(s.F, api.Push{Op: -7})
		fill(s.E, api.Push{Op: -7})
	}
	for _, list := range [][]int{a.Put, a.Get, a.bools} {
		fill(list, -7)
	}
	fill(a.Steps, api.Loop{Op: -7})
}

func writeOverAnswer(m api.Image) {
	for _, list := range [][]int{m.Put, m.Bools, m.Get} {
		fill(list, -8)
	}
	fill(m.Code, api.Ins{Op: -8})
}

// thrownAsked has loops that are right, or that may not be.
func thrownAsked(i, most int) asked {
	l, d := thrown(i, most), dice(i)
	a := asked{l, thrownBools(&d, l)}
	if i%3 == 0 {
		a = a.copied(1)
		slip(&d, &a.Loops)
	}
	return a
}

// 'What holds everywhere': what is handed in stays as it was, also if what is answered is
// changed; what lies behind the lists is neither read nor written.
func TestHandedIn(t *testing.T) {
	for i := range 2000 {
		a := thrownAsked(i, 6)
		want := a.answer()
		for _, behind := range []int{0, 3, -1, greatest} {
			given, kept := a.copied(behind), a.copied(behind)
			wantSame(t, fmt.Sprint("thrown ", i, " with more behind the lists"), given.answer(), want)
			m, _ := Make(given.Loops, given.bools)
			writeOverAnswer(m)
			if !reflect.DeepEqual(given.lists(), kept.lists()) {
				t.Fatalf("thrown %d: changed", i)
			}
			wantSame(t, "asked again", given.answer(), want)
		}
	}
}

// 'What holds everywhere': what is answered does not hang on what becomes of what was
// handed in, nor on what becomes of another answer.
func TestAnswerKept(t *testing.T) {
	for i := range 4000 {
		given := thrownAsked(i, 6).copied(5)
		got := given.answer()
		want := plain(got)
		m, _ := Make(given.Loops, given.bools)
		writeOverAnswer(m)
		given.writeOver()
		if plain(got) != want {
			t.Fatalf("thrown %d: changed with what was handed in", i)
		}
	}
}

// wantApart writes over each of the lists, and asks that the others stay.
func wantApart(t *testing.T, what string, lists ...[]int) {
	t.Helper()
	var before [][]int
	for _, list := range lists {
		before = append(before, slices.Clone(whole(list)))
	}
	for i, list := range lists {
		fill(list, -7)
		for j := range lists {
			if j != i && !slices.Equal(whole(lists[j]), before[j]) {
				t.Errorf("%s: the lists %d and %d share memory", what, i, j)
			}
		}
		copy(whole(list), before[i])
	}
}

// 'What holds everywhere': no two lists of one answer share memory, nor one of them with
// what was handed in; not even where those that were handed in do.
func TestListsApart(t *testing.T) {
	for i := range 2000 {
		l, d := thrown(i, 3), dice(i)
		l.Put, l.Get = append(l.Put, 0), append(l.Get, 0)
		bools := append(thrownBools(&d, l), 0)
		m := made(t, "apart", l, bools...)
		wantApart(t, fmt.Sprint("thrown ", i), m.Put, m.Bools, m.Get, l.Put, l.Get, bools)
	}
	list := upTo(0, 9)
	for from := range 9 {
		l := api.Loops{Cells: 9, Put: list, Get: list[from:], Steps: []api.Loop{one(0, "1")}}
		m := made(t, "shared", l, list[:from]...)
		wantSame(t, "shared", []any{m.Put, m.Bools, m.Get}, []any{list, list[:from], list[from:]})
		wantApart(t, fmt.Sprint("shared from ", from), m.Put, m.Bools, m.Get, list)
	}
	wantSame(t, "what was handed in", list, upTo(0, 9))
	steps := tree("c1 c2 c3 sel 4 add")
	l := over(9, ">", api.Loop{Op: api.LScan, K: api.KAdd, N: 3, To: 2, F: steps[:4], E: steps}, api.Loop{Op: api.LOne, E: steps[1:2]}, api.Loop{Op: api.LOne, E: steps})
	holdAgainstSaid(t, "trees that share memory", l, nil)
	wantSame(t, "the trees", steps, tree("c1 c2 c3 sel 4 add"))
}

// 'What holds everywhere': what grows behind what was answered reaches nothing else.
func TestGrows(t *testing.T) {
	for i := range 1000 {
		a := thrownAsked(i, 6)
		m, fault := Make(a.Loops, a.bools)
		want := plain(a.answer())
		for range 3 {
			_, _, _ = append(m.Put, -9), append(m.Get, -9), append(m.Bools, -9)
			_ = append(m.Code, api.Ins{Op: -9})
		}
		wantSame(t, fmt.Sprint("thrown ", i), []any{m, fault}, a.answer())
		wantSame(t, fmt.Sprint("thrown ", i), want, plain(a.answer()))
	}
}

// P1: what is answered hangs on the arguments alone.
func TestAtOnce(t *testing.T) {
	var all []asked
	var wants []string
	for i := range 500 {
		a := thrownAsked(i, 8)
		all, wants = append(all, a), append(wants, plain(a.answer()))
	}
	var group sync.WaitGroup
	for range 4 {
		group.Go(func() {
			for i, a := range all {
				if got := plain(a.answer()); got != wants[i] {
					t.Errorf("loops %d: %v, want %v", i, got, wants[i])
				}
			}
		})
	}
	group.Wait()
}
