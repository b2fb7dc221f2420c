package vm

import (
	"fmt"
	"math"
	"slices"
	"strconv"
	"strings"
	"testing"

	"loomwork/api"
	"loomwork/code"
)

const least, greatest = math.MinInt64, math.MaxInt64

// number reads a number; - is the least and + the greatest one.
func number(text string) int64 {
	switch text {
	case "-":
		return least
	case "+":
		return greatest
	}
	n, err := strconv.ParseInt(text, 10, 64)
	if err != nil {
		panic(err)
	}
	return n
}

// numbers reads numbers with spaces between them; "3..6" are all from 3 to 6.
func numbers(text string) []int64 {
	var list []int64
	for _, word := range strings.Fields(text) {
		from, to, isMore := strings.Cut(word, "..")
		list = append(list, number(from))
		for isMore && list[len(list)-1] < number(to) {
			list = append(list, list[len(list)-1]+1)
		}
	}
	return list
}

func ints(text string) []int {
	var list []int
	for _, n := range numbers(text) {
		list = append(list, int(n))
	}
	return list
}

func upTo(from, to int) []int {
	var list []int
	for i := from; i < to; i++ {
		list = append(list, i)
	}
	return list
}

// The operators' names: of two, from KAdd on, and of one.
const (
	namesOfTwo = "add sub mul div mod min max less eq and or xor"
	namesOfOne = "neg not"
)

// operatorOf answers the operator of that name, or 0.
func operatorOf(name string) int {
	return 1 + slices.Index(strings.Fields(namesOfTwo+" "+namesOfOne), name)
}

// nameOf answers an operator's name.
func nameOf(k int) string { return strings.Fields(namesOfTwo + " " + namesOfOne)[k-1] }

// instructions reads code: a name, and then the registers that it has: "num 0 5", "load 0
// 4", "loadx 0 1 4 3" (of the 3 cells from 4 on the one at the register 1), "store 0 4",
// "storex 0 1 4 3", "neg 0 1", "add 0 1 2", "sel 0 1 2", "move 0 1", "loop 0 3", "end".
func instructions(text string) []api.Ins {
	var l []api.Ins
	for _, line := range strings.Split(text, ";") {
		if words := strings.Fields(line); len(words) > 0 {
			l = append(l, instruction(words[0], append(numbers(strings.Join(words[1:], " ")), 0, 0)))
		}
	}
	return l
}

func instruction(name string, n []int64) api.Ins {
	i := api.Ins{R: int(n[0])}
	switch name {
	case "num", "load", "store", "loop":
		i.Op, i.N = map[string]int{"num": api.INum, "load": api.ILoad, "store": api.IStore, "loop": api.ILoop}[name], n[1]
	case "loadx", "storex":
		i.Op, i.A, i.N, i.B = map[string]int{"loadx": api.ILoadX, "storex": api.IStoreX}[name], int(n[1]), n[2], int(n[3])
	case "sel":
		i.Op, i.A, i.B = api.ISel, int(n[1]), int(n[2])
	case "move":
		i.Op, i.A = api.IMove, int(n[1])
	case "end":
		i.Op = api.IEnd
	default:
		i.K = operatorOf(name)
		switch {
		case i.K >= api.KNeg:
			i.Op, i.A = api.IUn, int(n[1])
		case i.K > 0:
			i.Op, i.A, i.B = api.IBin, int(n[1]), int(n[2])
		default:
			panic(name)
		}
	}
	return i
}

// image is an image of code over so many cells, with just the registers that the code
// names; what is given, which of it is truths, and what is told are lists of cells: "1 2
// : 2 > 0 4", or "1 2 > 0 4" without truths.
func image(cells int, lists, text string) api.Image {
	given, told, _ := strings.Cut(lists, ">")
	put, bools, _ := strings.Cut(given, ":")
	return withCode(api.Image{Cells: cells, Put: ints(put), Bools: ints(bools), Get: ints(told)}, instructions(text)...)
}

// withCode is an image with other code, with what that needs and costs.
func withCode(m api.Image, l ...api.Ins) api.Image {
	m.Code, m.Cost, m.Regs = l, code.Cost(l), 1
	for _, i := range l {
		for _, register := range registersOf(i) {
			m.Regs = max(m.Regs, register+1)
		}
	}
	return m
}

// registersOf are the registers that an instruction has.
func registersOf(i api.Ins) []int {
	switch i.Op {
	case api.IEnd:
		return nil
	case api.INum, api.ILoad, api.IStore, api.ILoop:
		return []int{i.R}
	case api.IBin, api.ISel:
		return []int{i.R, i.A, i.B}
	}
	return []int{i.R, i.A}
}

// plain is a thing as a text in which nil and empty lists are the same.
func plain(thing any) string { return fmt.Sprintf("%v", thing) }

func wantSame(t *testing.T, what string, got, want any) {
	t.Helper()
	if got, want := plain(got), plain(want); got != want {
		t.Errorf("%s: %.900s, want %.900s", what, got, want)
	}
}

// begun asks that an image may be run, and that nothing has been done of it.
func begun(t *testing.T, what string, m api.Image) *VM {
	t.Helper()
	v, fault := New(m)
	if fault != (api.Fault{}) || v == nil {
		t.Fatalf("%s: New: fault %v, want none: %.900s", what, fault, plain(m))
	}
	wantBeen(t, what, v, 0, make([]int64, m.Cells))
	return v
}

// wantBar asks of an image for a fault, and for nothing beside it.
func wantBar(t *testing.T, what string, m api.Image, k, at int) {
	t.Helper()
	v, fault := New(m)
	if want := (api.Fault{Code: k, At: at}); fault != want || v != nil {
		t.Errorf("%s: New: fault %v, want %v alone: %.900s", what, fault, want, plain(m))
	}
}

// wantBeen asks how many instructions have been done, and what the cells are.
func wantBeen(t *testing.T, what string, v *VM, steps int, cells []int64) {
	t.Helper()
	if v.Steps() != steps {
		t.Errorf("%s: Steps %d, want %d", what, v.Steps(), steps)
	}
	if got := v.Cells(); !slices.Equal(got, cells) {
		t.Errorf("%s: Cells %.900s, want %.900s", what, plain(got), plain(cells))
	}
}

// wantTold asks what a row tells, and that it takes as many instructions as the code
// costs.
func wantTold(t *testing.T, what string, v *VM, cost int, in, want []int64) {
	t.Helper()
	steps := v.Steps()
	told, fault := v.Row(in)
	if fault != (api.Fault{}) || !slices.Equal(told, want) {
		t.Errorf("%s: Row(%.300s): %.900s, fault %v, want %.900s", what, plain(in), plain(told), fault, plain(want))
	}
	if v.Steps() != steps+cost {
		t.Errorf("%s: Row(%.300s): Steps %d, want %d and %d", what, plain(in), v.Steps(), steps, cost)
	}
}

// wantNot asks for a row's fault, and that it is as if the row had never come.
func wantNot(t *testing.T, what string, v *VM, in []int64, k, at int) {
	t.Helper()
	steps, cells := v.Steps(), v.Cells()
	told, fault := v.Row(in)
	if want := (api.Fault{Code: k, At: at}); fault != want || len(told) > 0 {
		t.Errorf("%s: Row(%.300s): %.900s, fault %v, want %v alone", what, plain(in), plain(told), fault, want)
	}
	wantBeen(t, fmt.Sprintf("%s: Row(%.300s)", what, plain(in)), v, steps, cells)
}

// wantRow is a row and what it tells: "3 4 > 7"; or a row and its fault: "3 4 ! 17 -1".
func wantRow(t *testing.T, what string, v *VM, row string) {
	t.Helper()
	if in, fault, isWrong := strings.Cut(row, "!"); isWrong {
		wrong := ints(fault)
		wantNot(t, what, v, numbers(in), wrong[0], wrong[1])
		return
	}
	in, told, _ := strings.Cut(row, ">")
	wantTold(t, what, v, code.Cost(v.code), numbers(in), numbers(told))
}

// wantRows gives rows to an image that has just begun.
func wantRows(t *testing.T, what string, m api.Image, rows ...string) *VM {
	t.Helper()
	v := begun(t, what, m)
	for number, row := range rows {
		wantRow(t, fmt.Sprint(what, ", row ", number), v, row)
	}
	return v
}

// wantCells gives one row, for the first cells, to code, and asks for what all cells are
// then.
func wantCells(t *testing.T, what, given, text, cells string) {
	t.Helper()
	in, want := numbers(given), numbers(cells)
	m := image(len(want), ">", text)
	m.Put, m.Get = upTo(0, len(in)), upTo(0, len(want))
	v := begun(t, what, m)
	wantTold(t, what, v, m.Cost, in, want)
	wantBeen(t, what, v, m.Cost, want)
}

// dice throws the same numbers in each run.
type dice uint64

func (d *dice) below(n int) int {
	*d = *d*6364136223846793005 + 1442695040888963407
	return int(uint64(*d) >> 33 % uint64(n))
}

func pick[T any](d *dice, list []T) T { return list[d.below(len(list))] }

// someNumbers are small ones, the least and the greatest, and some between.
func someNumbers() []int64 {
	list := []int64{1 << 31, 1<<31 - 1, -1 << 31, 1 << 32, 1<<32 + 1, -1 << 32, 3037000500, 1 << 62, 1000000007}
	for i := int64(0); i < 5; i++ {
		list = append(list, i, -i, least+i, greatest-i)
	}
	return list
}

// fieldsOf reads "add 1, sub 2": a name and a number each.
func fieldsOf(text string) [][]string {
	var list [][]string
	for _, each := range strings.Split(text, ",") {
		list = append(list, strings.Fields(each))
	}
	return list
}
