package code

import (
	"fmt"
	"reflect"
	"slices"
	"sync"
	"testing"

	"loomwork/api"
)

// whole answers a list with what lies behind its length.
func whole[T any](l []T) []T { return l[:cap(l)] }

// spare copies a list into one that has room behind its length, with something there.
func spare[T any](list []T, behind T) []T {
	long := append(make([]T, 0, len(list)+3), list...)
	for i := len(list); i < cap(long); i++ {
		whole(long)[i] = behind
	}
	return long
}

// copied is an image in memory of its own, with a number behind each list.
func copied(m api.Image, behind int) api.Image {
	m.Put, m.Bools, m.Get = spare(m.Put, behind), spare(m.Bools, behind), spare(m.Get, behind)
	m.Code = spare(m.Code, api.Ins{Op: behind, R: behind, N: int64(behind)})
	return m
}

// listsOf answers each list of an image, with what lies behind it.
func listsOf(m api.Image) []any {
	return []any{whole(m.Put), whole(m.Bools), whole(m.Get), whole(m.Code)}
}

// 'What holds everywhere': what is handed in stays as it was, and what lies behind the
// lists is neither read nor written.
func TestHandedIn(t *testing.T) {
	d := dice(21)
	for i := range 20000 {
		m := copied(thrown(i), 0)
		if i%2 == 1 {
			slip(&d, &m)
		}
		want, cost := saidFault(m), saidCost(m.Code)
		for _, behind := range []int{0, -1, api.INum, api.ILoop, api.IEnd, greatest} {
			given, kept := copied(m, behind), copied(m, behind)
			wantFault(t, fmt.Sprint("thrown ", i), given, want.Code, want.At)
			wantCost(t, fmt.Sprint("thrown ", i), given.Code, cost)
			if !reflect.DeepEqual(listsOf(given), listsOf(kept)) {
				t.Fatalf("thrown %d: the image was changed", i)
			}
		}
	}
}

// What lies behind the code's length is no part of it, be it what would end a loop.
func TestBehind(t *testing.T) {
	l := shape(". (3 . ) (2 .")
	m := image(1, 1, l[:4]...)
	wantCost(t, "the first four", l[:4], 8)
	wantRight(t, "the first four", m)
	wantCost(t, "the first three", l[:3], 0)
	m.Code, m.Cost = l[:3], 0
	wantFault(t, "the first three", m, api.ErrCode, -1)
	m.Code = l[:0]
	wantRight(t, "none", m)
	wantCost(t, "from the second on", l[1:4], 7)
	list := []int{0, 0, 7}
	m.Put, m.Bools, m.Get = list[:2], list[:1], list[:0]
	wantRight(t, "no cell behind", m)
	m.Get = list
	wantFault(t, "no cell", m, api.ErrRange, -1)
}

// 'What holds everywhere': lists that share memory.
func TestShared(t *testing.T) {
	list := upTo(0, 5)
	m := image(5, 2, load(1, 4), store(1, 0))
	m.Put, m.Bools, m.Get = list, list[2:], list[:4]
	wantRight(t, "shared", m)
	wantSame(t, "what was handed in", list, upTo(0, 5))
	m.Cells = 4
	wantFault(t, "a cell less", m, api.ErrRange, -1)
}

// P1: what is answered hangs on the arguments alone.
func TestAtOnce(t *testing.T) {
	var images []api.Image
	var faults []api.Fault
	d := dice(22)
	for i := range 1000 {
		m := copied(thrown(i), 0)
		slip(&d, &m)
		images, faults = append(images, m), append(faults, saidFault(m))
	}
	var group sync.WaitGroup
	for range 4 {
		group.Go(func() {
			for i, m := range images {
				if got := Check(m); got != faults[i] {
					t.Errorf("image %d: %v, want %v", i, got, faults[i])
				}
				if got, want := Cost(m.Code), saidCost(m.Code); got != want {
					t.Errorf("image %d: cost %d, want %d", i, got, want)
				}
			}
		})
	}
	group.Wait()
	for i := range slices.Backward(images) {
		wantFault(t, fmt.Sprint("again ", i), images[i], faults[i].Code, faults[i].At)
	}
}
