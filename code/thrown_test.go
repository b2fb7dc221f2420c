package code

import (
	"fmt"
	"slices"
	"testing"

	"loomwork/api"
)

// How many cells and registers there are where code is thrown without an image.
const thrownCells, thrownRegs = 9, 4

// thrownIns is an instruction that is neither an ILoop nor an IEnd, and may be done where
// so much is there.
func thrownIns(d *dice, cells, regs int) api.Ins {
	i := api.Ins{Op: 1 + d.below(api.IMove), K: 1 + d.below(api.KXor), R: d.below(regs), A: d.below(regs), B: d.below(regs), N: int64(d.below(cells))}
	switch i.Op {
	case api.IUn:
		i.K = pick(d, []int{api.KNeg, api.KNot})
	case api.ILoadX, api.IStoreX:
		i.B = 1 + d.below(cells-int(i.N))
	}
	return i
}

// thrownPiece is code of at most so many instructions, one or more, that may be run.
func thrownPiece(d *dice, cells, regs, most int) []api.Ins {
	var l []api.Ins
	for most > 0 && (len(l) == 0 || d.below(9) > 0) {
		if most < 2 || d.below(3) > 0 {
			l = append(l, thrownIns(d, cells, regs))
			most--
			continue
		}
		l = append(l, loop(d.below(regs), int64(pick(d, []int{1, 2, 3, 300}))))
		for most > 2 && d.below(3) > 0 {
			l = append(l, thrownIns(d, cells, regs))
			most--
		}
		l = append(l, end())
		most -= 2
	}
	return l
}

func thrownCode(d *dice, most int) []api.Ins { return thrownPiece(d, thrownCells, thrownRegs, most) }

func thrownCellsOf(d *dice, cells int) []int {
	var list []int
	for range d.below(5) {
		list = append(list, d.below(cells))
	}
	return list
}

// thrown is an image that may be run.
func thrown(number int) api.Image {
	d := dice(number)
	cells, regs := pick(&d, []int{1, 2, 9, 6000}), pick(&d, []int{1, 2, 4, 40})
	l := thrownPiece(&d, cells, regs, 1+d.below(12))
	m := image(cells, regs, l...)
	m.Put, m.Bools, m.Get = thrownCellsOf(&d, cells), thrownCellsOf(&d, cells), thrownCellsOf(&d, cells)
	return m
}

// P16: images that may be run have no fault, and cost what the chapter's words say.
func TestThrown(t *testing.T) {
	for i := range 30000 {
		m := thrown(i)
		wantRight(t, fmt.Sprint("thrown ", i), m)
		wantCost(t, fmt.Sprint("thrown ", i), m.Code, m.Cost)
		if t.Failed() {
			t.FailNow()
		}
	}
}

// slip puts some number at one place of an image, or takes an instruction away, or puts
// one in.
func slip(d *dice, m *api.Image) {
	near := upTo(-1, 15)
	number := pick(d, slices.Concat(near, near, []int{m.Cells - 1, m.Cells, m.Regs, 39, 40, 41, 299, 300, 301, 6000, 6001, 1 << 32, greatest, least}))
	if len(m.Code) > 0 && d.below(3) > 0 {
		slipCode(d, m, number)
		return
	}
	places := []*int{&m.Cells, &m.Regs, &m.Cost}
	for _, list := range [][]int{m.Put, m.Bools, m.Get} {
		for i := range list {
			places = append(places, &list[i])
		}
	}
	*pick(d, places) = number
}

func slipCode(d *dice, m *api.Image, number int) {
	at := d.below(len(m.Code))
	i := &m.Code[at]
	switch d.below(9) {
	case 0:
		m.Code = slices.Delete(m.Code, at, at+1)
	case 1:
		m.Code = slices.Insert(m.Code, at, pick(d, []api.Ins{num(0, 0), loop(0, 2), end(), move(0, number)}))
	case 2, 3:
		i.N = int64(number)
	default:
		*pick(d, []*int{&i.Op, &i.K, &i.R, &i.A, &i.B}) = number
	}
	if d.below(2) == 0 { // else the image has its old cost
		m.Cost = saidCost(m.Code)
	}
}

// P16: each slip is told, or none is one, as the chapter's words say.
func TestSlips(t *testing.T) {
	d := dice(11)
	counts := map[int]int{}
	for i := range 200000 {
		m := copied(thrown(i), 0)
		for range 1 + d.below(3) {
			slip(&d, &m)
		}
		want := saidFault(m)
		counts[want.Code]++
		wantFault(t, fmt.Sprint("slip ", i), m, want.Code, want.At)
		wantCost(t, fmt.Sprint("slip ", i), m.Code, saidCost(m.Code))
		if t.Failed() {
			t.FailNow()
		}
	}
	for _, code := range []int{0, api.ErrSize, api.ErrRange, api.ErrForm, api.ErrCode} {
		if counts[code] < 5000 {
			t.Errorf("the code %d was told %d times alone", code, counts[code])
		}
	}
}
