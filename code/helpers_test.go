package code

import (
	"fmt"
	"math"
	"slices"
	"strings"
	"testing"

	"loomwork/api"
)

const least, greatest = math.MinInt64, math.MaxInt64

// ops are all Ops that there are.
func ops() []int { return upTo(api.INum, api.IEnd+1) }

// noOps are some numbers that are none.
func noOps() []int { return []int{0, -1, -11, 12, 13, 255, 256, 1<<32 + 1, greatest, least} }

// astray are numbers that nothing has where there are so many.
func astray(count int) []int {
	return []int{-1, -count, count, count + 1, 1 << 32, 1<<32 + 1, greatest, greatest - 1, least, least + 1}
}

func upTo(from, to int) []int {
	var list []int
	for i := from; i < to; i++ {
		list = append(list, i)
	}
	return list
}

func num(r int, n int64) api.Ins { return api.Ins{Op: api.INum, R: r, N: n} }

func load(r int, n int64) api.Ins { return api.Ins{Op: api.ILoad, R: r, N: n} }

func loadX(r, a, b int, n int64) api.Ins { return api.Ins{Op: api.ILoadX, R: r, A: a, B: b, N: n} }

func store(r int, n int64) api.Ins { return api.Ins{Op: api.IStore, R: r, N: n} }

func storeX(r, a, b int, n int64) api.Ins { return api.Ins{Op: api.IStoreX, R: r, A: a, B: b, N: n} }

func un(k, r, a int) api.Ins { return api.Ins{Op: api.IUn, K: k, R: r, A: a} }

func bin(k, r, a, b int) api.Ins { return api.Ins{Op: api.IBin, K: k, R: r, A: a, B: b} }

func sel(r, a, b int) api.Ins { return api.Ins{Op: api.ISel, R: r, A: a, B: b} }

func move(r, a int) api.Ins { return api.Ins{Op: api.IMove, R: r, A: a} }

func loop(r int, n int64) api.Ins { return api.Ins{Op: api.ILoop, R: r, N: n} }

func end() api.Ins { return api.Ins{Op: api.IEnd} }

// plainIns is an instruction of an Op that may be done where there is a cell and a register.
func plainIns(op int) api.Ins {
	i := api.Ins{Op: op}
	switch op {
	case api.ILoadX, api.IStoreX:
		i.B = 1
	case api.ISel, api.IBin:
		i.K = api.KAdd
	case api.IUn:
		i.K = api.KNeg
	case api.ILoop:
		i.N = 2
	}
	return i
}

// shape is code of which nothing but the loops matters: "(3" is an ILoop of 3 turns, ")" an
// IEnd, "." an INum, with spaces between them.
func shape(text string) []api.Ins {
	var l []api.Ins
	for _, word := range strings.Fields(text) {
		switch word[0] {
		case '(':
			var n int64
			if _, err := fmt.Sscan(word[1:], &n); err != nil {
				panic(err)
			}
			l = append(l, loop(0, n))
		case ')':
			l = append(l, end())
		default:
			l = append(l, num(0, 0))
		}
	}
	return l
}

// image is an image with what its code costs by the chapter's words, and nothing given or
// told.
func image(cells, regs int, l ...api.Ins) api.Image {
	return api.Image{Cells: cells, Regs: regs, Cost: saidCost(l), Code: l}
}

// around is an image with code behind that of a loop, and ahead of a step.
func around(cells, regs int, l ...api.Ins) api.Image {
	return image(cells, regs, slices.Concat([]api.Ins{loop(0, 2), end()}, l, []api.Ins{num(0, 0)})...)
}

// placeAround is where the code stands that it goes around.
const placeAround = 2

// plain is a thing as a text in which nil and empty lists are the same.
func plain(thing any) string { return fmt.Sprintf("%v", thing) }

func wantSame(t *testing.T, what string, got, want any) {
	t.Helper()
	if got, want := plain(got), plain(want); got != want {
		t.Errorf("%s: %.900s, want %.900s", what, got, want)
	}
}

func wantCost(t *testing.T, what string, l []api.Ins, want int) {
	t.Helper()
	if got := Cost(l); got != want {
		t.Errorf("%s: cost %d, want %d: %.900s", what, got, want, plain(l))
	}
}

func wantRight(t *testing.T, what string, m api.Image) {
	t.Helper()
	wantFault(t, what, m, 0, 0)
}

func wantFault(t *testing.T, what string, m api.Image, code, at int) {
	t.Helper()
	if got, want := Check(m), (api.Fault{Code: code, At: at}); got != want {
		t.Errorf("%s: fault %v, want %v: %.900s", what, got, want, plain(m))
	}
}

// wantIns asks of an instruction whether it may be done with so many cells and registers.
// An ILoop gets its IEnd, an IEnd its ILoop.
func wantIns(t *testing.T, what string, cells, regs int, i api.Ins, isRight bool) {
	t.Helper()
	m, place := around(cells, regs, i), placeAround
	switch i.Op {
	case api.ILoop:
		m = around(cells, regs, i, end())
	case api.IEnd:
		m, place = around(cells, regs, loop(0, 1), i), placeAround+1
	}
	if isRight {
		wantRight(t, what, m)
		return
	}
	wantFault(t, what, m, api.ErrForm, place)
}

// dice throws the same numbers in each run.
type dice uint64

func (d *dice) below(n int) int {
	*d = *d*6364136223846793005 + 1442695040888963407
	return int(uint64(*d) >> 33 % uint64(n))
}

func pick[T any](d *dice, list []T) T { return list[d.below(len(list))] }
