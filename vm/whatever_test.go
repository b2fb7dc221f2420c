package vm

import (
	"fmt"
	"slices"
	"testing"

	"loomwork/api"
	"loomwork/code"
)

// anyNumber is a number of whatever kind.
func anyNumber(d *dice) int {
	if d.below(4) > 0 {
		return d.below(16)
	}
	return pick(d, []int{-1, -2, 39, 40, 41, 300, 301, 5999, 6000, 6001, 1 << 32, 1<<32 + 1, greatest, greatest - 1, least, least + 1})
}

func anyInts(d *dice) []int {
	var list []int
	for range d.below(4) {
		list = append(list, anyNumber(d))
	}
	return list
}

// anything is an image of whatever numbers, with lists that may be nil.
func anything(d *dice) api.Image {
	m := api.Image{Cells: anyNumber(d), Regs: anyNumber(d), Cost: anyNumber(d), Put: anyInts(d), Bools: anyInts(d), Get: anyInts(d)}
	for range d.below(5) {
		m.Code = append(m.Code, api.Ins{Op: anyNumber(d), K: anyNumber(d), R: anyNumber(d), A: anyNumber(d), B: anyNumber(d), N: int64(anyNumber(d))})
	}
	return m
}

// slip puts some number at one place of an image, or takes an instruction away, or puts
// one in.
func slip(d *dice, m *api.Image) {
	number := pick(d, append(upTo(-1, 15), m.Cells-1, m.Cells, m.Regs, 40, 41, 300, 301, 6000, 6001, 1<<32, greatest, least))
	places := []*int{&m.Cells, &m.Regs, &m.Cost}
	for _, list := range [][]int{m.Put, m.Bools, m.Get} {
		for i := range list {
			places = append(places, &list[i])
		}
	}
	if d.below(3) == 0 {
		*pick(d, places) = number
		return
	}
	at := d.below(len(m.Code))
	i := &m.Code[at]
	switch d.below(9) {
	case 0:
		m.Code = slices.Delete(m.Code, at, at+1)
	case 1:
		m.Code = slices.Insert(m.Code, at, pick(d, instructions("num 0 0; loop 0 2; end; move 0 0; loadx 0 0 0 1")))
	case 2, 3:
		i.N = int64(number)
	default:
		*pick(d, []*int{&i.Op, &i.K, &i.R, &i.A, &i.B}) = number
	}
	if d.below(4) > 0 { // else the image has its old cost
		m.Cost = code.Cost(m.Code)
	}
}

// P1: no call panics, whatever it is given; what is told is what the chapter's words say.
func TestAnything(t *testing.T) {
	d := dice(7)
	codes := map[int]int{}
	for i := range 100000 {
		m := anything(&d)
		if i%4 > 0 {
			m = copied(thrown(i/4, 14, 8), 0)
			slip(&d, &m)
		}
		kept := plain(m)
		want := code.Check(m)
		codes[want.Code]++
		if want.Code != 0 {
			wantBar(t, fmt.Sprint("thrown ", i), m, want.Code, want.At)
		} else if m.Cells < 400 {
			holdAgainstSaid(t, fmt.Sprint("thrown ", i), m, anyRows(&d, m))
		}
		if plain(m) != kept || t.Failed() {
			t.Fatalf("thrown %d: %v, it was %v", i, m, kept)
		}
	}
	for _, k := range []int{0, api.ErrSize, api.ErrRange, api.ErrForm, api.ErrCode} {
		if codes[k] < 4000 {
			t.Errorf("the code %d was told %d times alone", k, codes[k])
		}
	}
}

// anyRows are rows of whatever numbers, and of whatever length.
func anyRows(d *dice, m api.Image) [][]int64 {
	rows := [][]int64{nil, {}}
	for range 4 {
		var row []int64
		for range pick(d, []int{len(m.Put), len(m.Put), d.below(9)}) {
			row = append(row, pick(d, someNumbers()))
		}
		rows = append(rows, row)
	}
	return rows
}

// P1: every call ends: lists that are long.
func TestEndless(t *testing.T) {
	long := make([]int, 1<<22)
	wantBar(t, "Put", api.Image{Cells: 1, Regs: 1, Put: long}, api.ErrMany, -1)
	wantBar(t, "Bools", api.Image{Cells: 1, Regs: 1, Bools: long}, api.ErrMany, -1)
	wantBar(t, "Get", api.Image{Cells: 1, Regs: 1, Get: long}, api.ErrMany, -1)
	wantBar(t, "code", api.Image{Cells: 1, Regs: 1, Cost: 1 << 20, Code: slices.Repeat(instructions("num 0 0"), 1<<20)}, api.ErrMany, -1)
	v := begun(t, "a long row", image(1, "0 > 0", "load 0 0; neg 0 0; store 0 0"))
	wantNot(t, "a long row", v, make([]int64, 1<<22), api.ErrRow, -1)
	wantRow(t, "a long row", v, "5 > -5")
}

// P1: as much as there may be, all at once: one loop of all instructions.
func TestFull(t *testing.T) {
	l := slices.Repeat(instructions("add 38 38 37"), 200000)
	copy(l, instructions("num 37 3; loop 39 300; storex 39 39 0 300; loadx 37 39 0 6000; mul 37 37 37"))
	copy(l[199998:], instructions("end; store 38 0"))
	m := withCode(api.Image{Cells: 6000, Put: upTo(0, 6000), Bools: upTo(3000, 6000), Get: slices.Repeat(upTo(0, 6000), 20)}, l...)
	wantSame(t, "what it costs", []int{m.Cost, m.Regs}, []int{3 + 300*199997, 40})
	in := make([]int64, 6000)
	for i := range in {
		in[i] = int64(i % 2)
	}
	want := slices.Clone(in)
	for k := range int64(300) {
		want[k] = k
	}
	want[0] = 199993 * (299 * 300 * 599 / 6)
	v := begun(t, "full", m)
	wantTold(t, "full", v, m.Cost, in, slices.Repeat(want, 20))
	wantBeen(t, "full", v, m.Cost, want)
	in[5999] = 2
	wantNot(t, "full", v, in, api.ErrRow, 5999)
}

// P1: many rows, one behind the other.
func TestManyRows(t *testing.T) {
	v := begun(t, "many rows", image(3, "0 > 1", "load 0 0; load 1 1; add 0 0 1; store 0 1; load 2 2; loadx 3 2 0 2"))
	for row := range int64(100000) {
		wantTold(t, "many rows", v, 6, []int64{row}, []int64{row * (row + 1) / 2})
	}
	wantSame(t, "steps", v.Steps(), 600000)
}

// Lists may be nil or empty, and are the same either way.
func TestEmptyLists(t *testing.T) {
	for _, empty := range [][]int{nil, {}} {
		l := instructions("num 0 5; store 0 0")
		wantRows(t, "Put and Bools", api.Image{Cells: 1, Regs: 1, Cost: 2, Put: empty, Bools: empty, Get: []int{0}, Code: l}, "> 5")
		wantRows(t, "Get", api.Image{Cells: 1, Regs: 1, Cost: 2, Put: []int{0}, Get: empty, Code: l}, "5 >", "!17 -1")
		wantRows(t, "all", api.Image{Cells: 1, Regs: 1, Put: empty, Bools: empty, Get: empty, Code: []api.Ins{}}, ">", "5 ! 17 -1")
	}
}
