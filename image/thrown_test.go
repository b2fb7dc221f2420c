package image

import (
	"fmt"
	"slices"
	"testing"

	"loomwork/api"
	"loomwork/code"
)

// someNumbers are small ones, the least and the greatest, and those from which on there
// is a byte more.
func someNumbers() []int64 {
	list := []int64{1 << 32, -1 << 32, 100, -101, 255, 256}
	for i := int64(0); i < 5; i++ {
		list = append(list, i, -i, least+i, greatest-i)
	}
	for power := 6; power < 63; power += 7 {
		list = append(list, 1<<power-1, 1<<power, -1<<power, -1<<power-1)
	}
	return list
}

// thrower throws code for so many cells and registers.
type thrower struct {
	*dice
	cells, regs int
}

// plainIns is an instruction that may be done where so much is there. What it does not
// have may be anything.
func (th thrower) plainIns() api.Ins {
	i := api.Ins{
		Op: pick(th.dice, []int{api.INum, api.ILoad, api.ILoadX, api.IStore, api.IStoreX, api.IUn, api.IBin, api.ISel, api.IMove}),
		R:  th.below(th.regs), A: th.below(th.regs), B: th.below(th.regs), N: int64(th.below(th.cells))}
	switch i.Op {
	case api.INum:
		i.N = pick(th.dice, someNumbers())
	case api.ILoadX, api.IStoreX:
		i.B = 1 + th.below(th.cells-int(i.N))
	case api.IUn:
		i.K = pick(th.dice, []int{api.KNeg, api.KNot})
	case api.IBin:
		i.K = 1 + th.below(api.KXor)
	}
	if th.below(3) == 0 {
		spoil(&i, pick(th.dice, someNumbers()))
	}
	return i
}

// spoil puts another number wherever an instruction has none.
func spoil(i *api.Ins, n int64) {
	other := int(n)
	switch i.Op {
	case api.INum, api.ILoad, api.IStore, api.ILoop:
		i.K, i.A, i.B = other, other, other
	case api.ILoadX, api.IStoreX:
		i.K = other
	case api.IUn:
		i.B, i.N = other, n
	case api.IBin:
		i.N = n
	case api.ISel:
		i.K, i.N = other, n
	case api.IMove:
		i.K, i.B, i.N = other, other, n
	case api.IEnd:
		i.K, i.R, i.A, i.B, i.N = other, other, other, other, n
	}
}

// code is so many instructions, some of them loops.
func (th thrower) code(count int) []api.Ins {
	var l []api.Ins
	for len(l) < count {
		if th.below(4) > 0 {
			l = append(l, th.plainIns())
			continue
		}
		loop, end := api.Ins{Op: api.ILoop, R: th.below(th.regs), N: int64(1 + th.below(300))}, api.Ins{Op: api.IEnd}
		spoil(&loop, pick(th.dice, someNumbers()))
		spoil(&end, pick(th.dice, someNumbers()))
		l = append(l, loop)
		for range th.below(3) {
			l = append(l, th.plainIns())
		}
		l = append(l, end)
	}
	return l
}

func thrownCells(d *dice, cells int) []int {
	var list []int
	for range d.below(5) {
		list = append(list, d.below(cells))
	}
	return list
}

// thrown is an image that may be run.
func thrown(number, most int) api.Image {
	d := dice(number)
	cells, regs := pick(&d, []int{1, 2, 63, 64, 65, 128, 6000}), pick(&d, []int{1, 2, 7, 40})
	m := api.Image{Cells: cells, Regs: regs, Put: thrownCells(&d, cells), Bools: thrownCells(&d, cells), Get: thrownCells(&d, cells)}
	m.Code = thrower{&d, cells, regs}.code(d.below(most + 1))
	m.Cost = code.Cost(m.Code)
	return m
}

// What follows: thrown images, there and back.
func TestThrownImages(t *testing.T) {
	for i := range 20000 {
		m := thrown(i, 14)
		b := encoded(t, fmt.Sprint("thrown ", i), m)
		wantSame(t, fmt.Sprint("thrown ", i), b, around(saidBetween(m)))
		wantDecoded(t, fmt.Sprint("thrown ", i), b, m)
		if t.Failed() {
			t.FailNow()
		}
	}
}

// What follows: likewise images that are long.
func TestThrownLong(t *testing.T) {
	for i := range 20 {
		m := thrown(i, 20000)
		b := encoded(t, fmt.Sprint("thrown ", i), m)
		wantSame(t, fmt.Sprint("thrown ", i), b, around(saidBetween(m)))
		wantDecoded(t, fmt.Sprint("thrown ", i), b, m)
	}
}

// What follows: one byte that is another one is told, wherever it is, whatever it is.
func TestAnotherByte(t *testing.T) {
	for i := range 60 {
		right := encoded(t, "thrown", thrown(i, 3))
		for place := range right {
			b := slices.Clone(right)
			for other := range 256 {
				if b[place] = byte(other); b[place] == right[place] {
					continue
				}
				what := fmt.Sprint("thrown ", i, ": the byte ", place, " being ", other)
				if place < 3 {
					wantBar(t, what, b, api.ErrForm, 0)
				} else {
					wantBar(t, what, b, api.ErrSum, len(b)-4)
				}
			}
		}
	}
}

// slipped are an image's bytes that are somehow others, mostly with a right sum.
func slipped(d *dice, b []byte) []byte {
	between := slices.Clone(b[3 : len(b)-4])
	for range 1 + d.below(2) {
		at := d.below(len(between) + 1)
		some := pick(d, [][]byte{{0}, {1}, {2}, {128}, {255}, {127}, {128, 0}, {128, 1}, {200, 1}, saidNumber(pick(d, someNumbers())), saidNumber(pick(d, someNumbers()))})
		switch to := min(len(between), at+d.below(7)); d.below(5) {
		case 0:
			between = slices.Insert(between, at, some...)
		case 1:
			between = slices.Delete(between, at, to)
		case 2:
			between = between[:at]
		default:
			between = slices.Replace(between, at, min(len(between), at+1), some...)
		}
	}
	all := around(between)
	switch d.below(20) {
	case 0:
		all[d.below(len(all))] ^= 1 << d.below(8)
	case 1:
		all = all[:d.below(len(all)+1)]
	}
	return all
}

// P19.2: an image's bytes that are somehow others are what the chapter's words say; and
// those that are an image again are that image's bytes.
func TestSlipped(t *testing.T) {
	d, codes := dice(19), map[int]int{}
	for i := range 60000 {
		b := slipped(&d, around(saidBetween(thrown(i/4, 6))))
		codes[holdAgainstSaid(t, fmt.Sprint("slipped ", i), b)]++
		if t.Failed() {
			t.Fatalf("%v", b)
		}
	}
	for _, k := range []int{0, api.ErrShort, api.ErrForm, api.ErrSum, api.ErrNumber, api.ErrMany, api.ErrCode} {
		if codes[k] < 500 {
			t.Errorf("the code %d was told %d times alone", k, codes[k])
		}
	}
}
