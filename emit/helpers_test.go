package emit

import (
	"cmp"
	"fmt"
	"math"
	"slices"
	"strconv"
	"strings"
	"testing"

	"loomwork/api"
	"loomwork/code"
)

const least, greatest = math.MinInt64, math.MaxInt64

// number reads a number; - is the least and + the greatest one.
func number(text string) int64 {
	switch text {
	case "-":
		return least
	case "+":
		return greatest
	}
	n, err := strconv.ParseInt(text, 10, 64)
	if err != nil {
		panic(err)
	}
	return n
}

// numbers reads numbers with spaces between them.
func numbers(text string) []int64 {
	var list []int64
	for _, word := range strings.Fields(text) {
		list = append(list, number(word))
	}
	return list
}

func ints(text string) []int {
	var list []int
	for _, n := range numbers(text) {
		list = append(list, int(n))
	}
	return list
}

func upTo(from, to int) []int {
	var list []int
	for i := from; i < to; i++ {
		list = append(list, i)
	}
	return list
}

// The operators' names: of two, from KAdd on, and of one.
const (
	namesOfTwo = "add sub mul div mod min max less eq and or xor"
	namesOfOne = "neg not"
)

// operatorOf answers the operator of that name, or 0.
func operatorOf(name string) int {
	return 1 + slices.Index(strings.Fields(namesOfTwo+" "+namesOfOne), name)
}

// nameOf answers an operator's name.
func nameOf(k int) string { return strings.Fields(namesOfTwo + " " + namesOfOne)[k-1] }

// tree reads steps: "c4" is the cell 4, "a4" the cell 4 + k, "t4,3" of the 3 cells from 4
// on the one at the number, or else the other one, "k" is k, "k2" is k + 2; operators are
// names, "sel" the choice; what else stands there is a number.
func tree(text string) []api.Push {
	var steps []api.Push
	for _, word := range strings.Fields(text) {
		steps = append(steps, push(word))
	}
	return steps
}

func push(word string) api.Push {
	if k := operatorOf(word); k >= api.KNeg {
		return api.Push{Op: api.PUn, K: k}
	} else if k > 0 {
		return api.Push{Op: api.PBin, K: k}
	}
	switch word[0] {
	case 's':
		return api.Push{Op: api.PSel}
	case 'c':
		return api.Push{Op: api.PSca, V: int(number(word[1:]))}
	case 'a':
		return api.Push{Op: api.PArr, V: int(number(word[1:]))}
	case 'k':
		return api.Push{Op: api.PIdx, N: number(cmp.Or(word[1:], "0"))}
	case 't':
		first, count, _ := strings.Cut(word[1:], ",")
		return api.Push{Op: api.PAt, V: int(number(first)), N: number(count)}
	}
	return api.Push{Op: api.PNum, N: number(word)}
}

func one(to int, e string) api.Loop { return api.Loop{Op: api.LOne, To: to, E: tree(e)} }

func each(to, n int, e string) api.Loop { return api.Loop{Op: api.LEach, N: n, To: to, E: tree(e)} }

func fold(k, to, n int, f, e string) api.Loop {
	return api.Loop{Op: api.LFold, K: k, N: n, To: to, F: tree(f), E: tree(e)}
}

func scan(k, to, n int, f, e string) api.Loop {
	return api.Loop{Op: api.LScan, K: k, N: n, To: to, F: tree(f), E: tree(e)}
}

// over is steps over so many cells; what is given and told are lists of cells: "1 2 > 0".
func over(cells int, lists string, steps ...api.Loop) api.Loops {
	put, get, _ := strings.Cut(lists, ">")
	return api.Loops{Cells: cells, Put: ints(put), Get: ints(get), Steps: steps}
}

// instructions reads code: a name, R, then A, B and N, as far as it has them: "num s0 5",
// "load s0 4", "loadx s0 turn 4 3" (of 3 cells from 4 on), "store s0 4", "storex s0 turn
// 4 3", "neg s0 s1", "add s0 s1 s2", "sel s0 s1 s2", "move joint s0", "loop 3", "end".
// The stack's registers are counted from that one on.
func instructions(stack int, text string) []api.Ins {
	var l []api.Ins
	for _, line := range strings.Split(text, ";") {
		if words := strings.Fields(line); len(words) > 0 {
			l = append(l, instruction(stack, words[0], words[1:]))
		}
	}
	return l
}

func registerOf(stack int, word string) int {
	switch word {
	case "turn":
		return 0
	case "joint":
		return 1
	}
	return stack + int(number(strings.TrimPrefix(word, "s")))
}

func instruction(stack int, name string, rest []string) api.Ins {
	register := func(place int) int { return registerOf(stack, rest[place]) }
	if k := operatorOf(name); k >= api.KNeg {
		return api.Ins{Op: api.IUn, K: k, R: register(0), A: register(1)}
	} else if k > 0 {
		return api.Ins{Op: api.IBin, K: k, R: register(0), A: register(1), B: register(2)}
	}
	switch name {
	case "num":
		return api.Ins{Op: api.INum, R: register(0), N: number(rest[1])}
	case "load":
		return api.Ins{Op: api.ILoad, R: register(0), N: number(rest[1])}
	case "loadx":
		return api.Ins{Op: api.ILoadX, R: register(0), A: register(1), N: number(rest[2]), B: int(number(rest[3]))}
	case "store":
		return api.Ins{Op: api.IStore, R: register(0), N: number(rest[1])}
	case "storex":
		return api.Ins{Op: api.IStoreX, R: register(0), A: register(1), N: number(rest[2]), B: int(number(rest[3]))}
	case "sel":
		return api.Ins{Op: api.ISel, R: register(0), A: register(1), B: register(2)}
	case "move":
		return api.Ins{Op: api.IMove, R: register(0), A: register(1)}
	case "loop":
		return api.Ins{Op: api.ILoop, N: number(rest[0])}
	case "end":
		return api.Ins{Op: api.IEnd}
	}
	panic(name)
}

// plain is a thing as a text in which nil and empty lists are the same.
func plain(thing any) string { return fmt.Sprintf("%v", thing) }

func wantSame(t *testing.T, what string, got, want any) {
	t.Helper()
	if got, want := plain(got), plain(want); got != want {
		t.Errorf("%s: %.900s, want %.900s", what, got, want)
	}
}

// made asks that there is no fault, that code.Check tells none of what is answered, and
// that its cost is code.Cost's.
func made(t *testing.T, what string, l api.Loops, bools ...int) api.Image {
	t.Helper()
	m, fault := Make(l, bools)
	if fault != (api.Fault{}) {
		t.Errorf("%s: fault %v, want none: %.900s, %.300s", what, fault, plain(l), plain(bools))
		return m
	}
	if fault := code.Check(m); fault.Code != 0 {
		t.Errorf("%s: code.Check: %v: %.900s", what, fault, plain(m))
	}
	if cost := code.Cost(m.Code); m.Cost != cost {
		t.Errorf("%s: Cost %d, want %d", what, m.Cost, cost)
	}
	return m
}

// wantFault asks for a fault, and for nothing beside it.
func wantFault(t *testing.T, what string, l api.Loops, bools []int, k, at int) {
	t.Helper()
	m, fault := Make(l, bools)
	isNothing := plain(m) == plain(api.Image{})
	if want := (api.Fault{Code: k, At: at}); fault != want || !isNothing {
		t.Errorf("%s: fault %v, want %v alone: %.300s of %.900s, %.300s", what, fault, want, plain(m), plain(l), plain(bools))
	}
}

// wantCode asks for the code of one step over so many cells, with that step between
// others and by itself, and for how many registers there are.
func wantCode(t *testing.T, what string, cells int, s api.Loop, regs int, want []api.Ins) {
	t.Helper()
	m := made(t, what, over(cells, "> 0", s))
	wantSame(t, what+": code", m.Code, want)
	wantSame(t, what+": Regs", m.Regs, regs)
	m = made(t, what, over(cells, "> 0", one(0, "7"), s, one(0, "8")))
	wantSame(t, what+": code between others", m.Code, slices.Concat(instructions(2, "num s0 7; store s0 0"), want, instructions(2, "num s0 8; store s0 0")))
	wantSame(t, what+": Regs between others", m.Regs, regs)
}

// dice throws the same numbers in each run.
type dice uint64

func (d *dice) below(n int) int {
	*d = *d*6364136223846793005 + 1442695040888963407
	return int(uint64(*d) >> 33 % uint64(n))
}

func pick[T any](d *dice, list []T) T { return list[d.below(len(list))] }

// someNumbers are small ones, the least and the greatest, and some between.
func someNumbers() []int64 {
	list := []int64{1 << 31, 1<<31 - 1, -1 << 31, 1 << 32, 1<<32 + 1, -1 << 32, 3037000500, 1 << 62, 1000000007}
	for i := int64(0); i < 5; i++ {
		list = append(list, i, -i, least+i, greatest-i)
	}
	return list
}
