package image

import (
	"fmt"
	"reflect"
	"slices"
	"sync"
	"testing"

	"loomwork/api"
)

// whole answers a list with what lies behind its length.
func whole[T any](l []T) []T { return l[:cap(l)] }

// spare copies a list into one that has room behind its length, with something there.
func spare[T any](list []T, behind T) []T {
	long := append(make([]T, 0, len(list)+3), list...)
	for i := len(list); i < cap(long); i++ {
		whole(long)[i] = behind
	}
	return long
}

// copied is an image in memory of its own, with a number behind each list.
func copied(m api.Image, behind int) api.Image {
	m.Put, m.Bools, m.Get = spare(m.Put, behind), spare(m.Bools, behind), spare(m.Get, behind)
	m.Code = spare(m.Code, api.Ins{Op: behind, R: behind, N: int64(behind)})
	return m
}

// listsOf answers each list of an image, with what lies behind it.
func listsOf(m api.Image) []any {
	return []any{whole(m.Put), whole(m.Bools), whole(m.Get), whole(m.Code)}
}

// fill puts something else into all the memory that a list has.
func fill[T any](list []T, with T) {
	for i := range whole(list) {
		whole(list)[i] = with
	}
}

func writeOver(m api.Image) {
	for _, list := range [][]int{m.Put, m.Bools, m.Get} {
		fill(list, -7)
	}
	fill(m.Code, api.Ins{Op: -7, R: -7, N: -7})
}

// 'What holds everywhere': an image that is handed in stays as it was, and what lies
// behind its lists is neither read nor written.
func TestImageHandedIn(t *testing.T) {
	for i := range 3000 {
		m := thrown(i, 14)
		if i%3 == 0 {
			m.Cost++ // it may not be run
		}
		wantBytes, wantFault := Encode(m)
		for _, behind := range []int{0, 1, api.ILoop, api.IEnd, -1, greatest} {
			given, kept := copied(m, behind), copied(m, behind)
			b, fault := Encode(given)
			wantSame(t, fmt.Sprint("thrown ", i), []any{b, fault}, []any{wantBytes, wantFault})
			if !reflect.DeepEqual(listsOf(given), listsOf(kept)) || t.Failed() {
				t.Fatalf("thrown %d: the image was changed", i)
			}
		}
	}
}

// 'What holds everywhere': bytes that are handed in stay as they were, and what lies
// behind their length is neither read nor written: not what would end a number, nor what
// would be the sum.
func TestBytesHandedIn(t *testing.T) {
	d := dice(9)
	for i := range 3000 {
		b := encoded(t, "thrown", thrown(i, 14))
		if i%2 == 1 {
			b = slipped(&d, b)
		}
		wantImage, wantFault := Decode(slices.Clip(slices.Clone(b)))
		for _, behind := range []byte{0, 1, 128, 255} {
			given := spare(b, behind)
			kept := slices.Clone(whole(given))
			m, fault := Decode(given)
			wantSame(t, fmt.Sprint("thrown ", i), []any{m, fault}, []any{wantImage, wantFault})
			wantSame(t, fmt.Sprint("thrown ", i, ": the bytes"), whole(given), kept)
			Sum(given)
			wantSame(t, fmt.Sprint("thrown ", i, ": the bytes"), whole(given), kept)
		}
		if t.Failed() {
			t.FailNow()
		}
	}
}

// 'What holds everywhere': the rest of an image's bytes may lie behind those that are
// handed in.
func TestRestBehind(t *testing.T) {
	for i := range 40 {
		b := encoded(t, "thrown", thrown(i, 8))
		for length := range len(b) {
			m, fault := Decode(b[:length])
			want, wantFault := Decode(slices.Clip(slices.Clone(b[:length])))
			wantSame(t, fmt.Sprint("thrown ", i, ", cut at ", length), []any{m, fault}, []any{want, wantFault})
		}
	}
}

// 'What holds everywhere': what is answered is new memory, and what is handed in is not
// kept: both may be changed as one likes.
func TestKept(t *testing.T) {
	var all []api.Image
	var allBytes [][]byte
	for i := range 2000 {
		m := thrown(i, 14)
		given := copied(m, 1)
		b := encoded(t, "given", given)
		want := plain(b)
		writeOver(given)
		wantSame(t, "bytes", b, want)
		again := encoded(t, "again", m)
		fill(again, 77)
		wantSame(t, "bytes", b, want)
		in := spare(b, 9)
		first, _ := Decode(in)
		fill(in, 78)
		wantSame(t, "an image", first, m)
		second, _ := Decode(b)
		writeOver(second)
		wantSame(t, "an image", first, m)
		all, allBytes = append(all, first), append(allBytes, b)
	}
	for i := range all {
		wantSame(t, "later", []any{all[i], allBytes[i]}, []any{thrown(i, 14), around(saidBetween(all[i]))})
	}
}

// 'What holds everywhere': no two lists of one answer share memory, be they put more into.
func TestListsApart(t *testing.T) {
	for i := range 3000 {
		m := thrown(i, 14)
		if i%2 == 1 {
			m.Bools, m.Get = m.Put, m.Put
		}
		b := encoded(t, "thrown", m)
		for which := range 4 {
			got, _ := Decode(b)
			lists := []*[]int{&got.Put, &got.Bools, &got.Get}
			wants := []any{m.Put, m.Bools, m.Get}
			if which < 3 {
				*lists[which] = append(*lists[which], 8, 8, 8)
				fill(*lists[which], 9)
			} else {
				got.Code = append(got.Code, api.Ins{}, api.Ins{})
				fill(got.Code, api.Ins{Op: 9})
			}
			for other := range lists {
				if other != which {
					wantSame(t, fmt.Sprint("thrown ", i, ": list ", other), *lists[other], wants[other])
				}
			}
			if which < 3 {
				wantSame(t, fmt.Sprint("thrown ", i, ": code"), got.Code, m.Code)
			}
		}
		if t.Failed() {
			t.FailNow()
		}
	}
}

// 'What holds everywhere': lists of an image that share memory.
func TestShared(t *testing.T) {
	list := []int{0, 1, 2, 1, 0}
	m := withCode(api.Image{Cells: 3, Put: list[:3], Bools: list[1:2], Get: list}, instructions("load 0 0")...)
	wantThereAndBack(t, "shared", m, "6 2 2 6 0 2 4 2 2 10 0 2 4 2 0 2 4 0 0 0 0 0")
	wantSame(t, "what was handed in", list, []int{0, 1, 2, 1, 0})
	l := instructions("num 0 1; num 0 2; num 0 3")
	wantThereAndBack(t, "the front", withCode(api.Image{Cells: 1}, l[:1]...), "2 2 2 0 0 0 2 2 0 0 0 0 2")
	wantThereAndBack(t, "the back", withCode(api.Image{Cells: 1}, l[1:]...), "2 2 4 0 0 0 4 2 0 0 0 0 4 2 0 0 0 0 6")
}

// P1: what is answered hangs on the arguments alone.
func TestAtOnce(t *testing.T) {
	type asked struct {
		m    api.Image
		b    []byte
		want string
	}
	var all []asked
	answer := func(m api.Image, b []byte) string {
		out, wrong := Encode(m)
		back, fault := Decode(b)
		return plain([]any{out, wrong, back, fault, Sum(b)})
	}
	d := dice(11)
	for i := range 400 {
		m := thrown(i, 40)
		b := around(saidBetween(m))
		if i%2 == 1 {
			b = slipped(&d, b)
		}
		all = append(all, asked{m, b, answer(m, b)})
	}
	var group sync.WaitGroup
	for range 4 {
		group.Go(func() {
			for i, a := range all {
				if got := answer(a.m, a.b); got != a.want {
					t.Errorf("asked %d: %.900s, want %.900s", i, got, a.want)
				}
			}
		})
	}
	group.Wait()
}
