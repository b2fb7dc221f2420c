package code

import (
	"fmt"
	"slices"
	"testing"

	"loomwork/api"
)

// anyNumber is a number of whatever kind.
func anyNumber(d *dice) int {
	if d.below(4) > 0 {
		return d.below(16)
	}
	return pick(d, []int{-1, -2, 39, 40, 41, 300, 301, 5999, 6000, 6001, 1 << 32, 1<<32 + 1, greatest, greatest - 1, least, least + 1})
}

func anyInts(d *dice) []int {
	var list []int
	for range d.below(4) {
		list = append(list, anyNumber(d))
	}
	return list
}

// anything is an image of whatever numbers, with lists that may be nil.
func anything(d *dice) api.Image {
	m := api.Image{Cells: anyNumber(d), Regs: anyNumber(d), Cost: anyNumber(d), Put: anyInts(d), Bools: anyInts(d), Get: anyInts(d)}
	for range d.below(5) {
		m.Code = append(m.Code, api.Ins{Op: anyNumber(d), K: anyNumber(d), R: anyNumber(d), A: anyNumber(d), B: anyNumber(d), N: int64(anyNumber(d))})
	}
	return m
}

// P1: no call panics, whatever it is given; what is told is what the chapter's words say.
func TestAnything(t *testing.T) {
	d := dice(7)
	for i := range 200000 {
		m := anything(&d)
		kept := plain(m)
		want := saidFault(m)
		wantFault(t, fmt.Sprint("thrown ", i), m, want.Code, want.At)
		wantCost(t, fmt.Sprint("thrown ", i), m.Code, saidCost(m.Code))
		if plain(m) != kept || t.Failed() {
			t.Fatalf("thrown %d: %v, it was %v", i, m, kept)
		}
	}
}

// P1: every call ends: lists that are long; what code costs is reckoned of any length.
func TestEndless(t *testing.T) {
	long := make([]int, 1<<22)
	wantFault(t, "Put", api.Image{Cells: 1, Regs: 1, Put: long}, api.ErrMany, -1)
	wantFault(t, "Bools", api.Image{Cells: 1, Regs: 1, Bools: long}, api.ErrMany, -1)
	wantFault(t, "Get", api.Image{Cells: 1, Regs: 1, Get: long}, api.ErrMany, -1)
	l := slices.Repeat([]api.Ins{num(0, 0)}, 1<<20)
	wantFault(t, "code", api.Image{Cells: 1, Regs: 1, Cost: 1 << 20, Code: l}, api.ErrMany, -1)
	wantCost(t, "long code", l, 1<<20)
	l[0], l[1<<20-1] = loop(0, 300), end()
	wantCost(t, "a long loop", l, 1+300*(1<<20-1))
	wantCost(t, "many loops", slices.Repeat([]api.Ins{loop(0, 300), end()}, 1<<19), 301<<19)
	wantCost(t, "many loops and one more", slices.Repeat([]api.Ins{loop(0, 300), end(), end()}, 1<<18), 0)
}

// P1: as much as there may be, all at once.
func TestFull(t *testing.T) {
	m := api.Image{Cells: 6000, Regs: 40, Put: upTo(0, 6000), Bools: upTo(0, 6000), Get: slices.Repeat(upTo(0, 6000), 20)}
	m.Code = slices.Repeat([]api.Ins{bin(api.KXor, 39, 39, 39)}, 200000)
	m.Cost = 200000
	wantRight(t, "full", m)
	m.Code[0], m.Code[199999] = loop(39, 300), end()
	m.Cost = 1 + 300*199999
	wantRight(t, "one loop", m)
	m.Cost++
	wantFault(t, "one loop, that costs more", m, api.ErrCode, -1)
	m.Code[199998] = store(0, 6000)
	wantFault(t, "the last but one", m, api.ErrForm, 199998)
}

// Lists may be nil or empty, and are the same either way.
func TestEmptyLists(t *testing.T) {
	for _, empty := range [][]int{nil, {}} {
		for _, code := range [][]api.Ins{nil, {}} {
			wantRight(t, "empty", api.Image{Cells: 1, Regs: 1, Put: empty, Bools: empty, Get: empty, Code: code})
			wantFault(t, "empty", api.Image{Cells: 1, Regs: 1, Cost: 1, Put: empty, Bools: empty, Get: empty, Code: code}, api.ErrCode, -1)
		}
	}
	wantFault(t, "nothing at all", api.Image{}, api.ErrSize, -1)
}
