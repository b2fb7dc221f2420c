package image

import (
	"encoding/binary"
	"fmt"
	"hash/crc32"
	"math"
	"slices"
	"strconv"
	"strings"
	"testing"

	"loomwork/api"
	"loomwork/code"
)

const least, greatest = math.MinInt64, math.MaxInt64

// number reads a number; - is the least and + the greatest one.
func number(text string) int64 {
	switch text {
	case "-":
		return least
	case "+":
		return greatest
	}
	n, err := strconv.ParseInt(text, 10, 64)
	if err != nil {
		panic(err)
	}
	return n
}

// numbers reads numbers with spaces between them; "3..6" are all from 3 to 6.
func numbers(text string) []int64 {
	var list []int64
	for _, word := range strings.Fields(text) {
		from, to, isMore := strings.Cut(word, "..")
		list = append(list, number(from))
		for isMore && list[len(list)-1] < number(to) {
			list = append(list, list[len(list)-1]+1)
		}
	}
	return list
}

func ints(text string) []int {
	var list []int
	for _, n := range numbers(text) {
		list = append(list, int(n))
	}
	return list
}

func upTo(from, to int) []int {
	var list []int
	for i := from; i < to; i++ {
		list = append(list, i)
	}
	return list
}

// The operators' names: of two, from KAdd on, and of one.
const (
	namesOfTwo = "add sub mul div mod min max less eq and or xor"
	namesOfOne = "neg not"
)

// operatorOf answers the operator of that name, or 0.
func operatorOf(name string) int {
	return 1 + slices.Index(strings.Fields(namesOfTwo+" "+namesOfOne), name)
}

// instructions reads code: a name, and then the registers that it has: "num 0 5", "load 0
// 4", "loadx 0 1 4 3" (of the 3 cells from 4 on the one at the register 1), "store 0 4",
// "storex 0 1 4 3", "neg 0 1", "add 0 1 2", "sel 0 1 2", "move 0 1", "loop 0 3", "end".
func instructions(text string) []api.Ins {
	var l []api.Ins
	for _, line := range strings.Split(text, ";") {
		if words := strings.Fields(line); len(words) > 0 {
			l = append(l, instruction(words[0], append(numbers(strings.Join(words[1:], " ")), 0, 0)))
		}
	}
	return l
}

func instruction(name string, n []int64) api.Ins {
	i := api.Ins{R: int(n[0])}
	switch name {
	case "num", "load", "store", "loop":
		i.Op, i.N = map[string]int{"num": api.INum, "load": api.ILoad, "store": api.IStore, "loop": api.ILoop}[name], n[1]
	case "loadx", "storex":
		i.Op, i.A, i.N, i.B = map[string]int{"loadx": api.ILoadX, "storex": api.IStoreX}[name], int(n[1]), n[2], int(n[3])
	case "sel":
		i.Op, i.A, i.B = api.ISel, int(n[1]), int(n[2])
	case "move":
		i.Op, i.A = api.IMove, int(n[1])
	case "end":
		i.Op = api.IEnd
	default:
		i.K = operatorOf(name)
		switch {
		case i.K >= api.KNeg:
			i.Op, i.A = api.IUn, int(n[1])
		case i.K > 0:
			i.Op, i.A, i.B = api.IBin, int(n[1]), int(n[2])
		default:
			panic(name)
		}
	}
	return i
}

// imageOf is an image of code over so many cells, with just the registers that the code
// names; what is given, which of it is truths, and what is told are lists of cells: "1 2
// : 2 > 0 4", or "1 2 > 0 4" without truths.
func imageOf(cells int, lists, text string) api.Image {
	given, told, _ := strings.Cut(lists, ">")
	put, bools, _ := strings.Cut(given, ":")
	return withCode(api.Image{Cells: cells, Put: ints(put), Bools: ints(bools), Get: ints(told)}, instructions(text)...)
}

// withCode is an image with other code, with what that needs and costs.
func withCode(m api.Image, l ...api.Ins) api.Image {
	m.Code, m.Cost, m.Regs = l, code.Cost(l), 1
	for _, i := range l {
		for _, register := range registersOf(i) {
			m.Regs = max(m.Regs, register+1)
		}
	}
	return m
}

// registersOf are the registers that an instruction has.
func registersOf(i api.Ins) []int {
	switch i.Op {
	case api.IEnd:
		return nil
	case api.INum, api.ILoad, api.IStore, api.ILoop:
		return []int{i.R}
	case api.IBin, api.ISel:
		return []int{i.R, i.A, i.B}
	}
	return []int{i.R, i.A}
}

// bytesOf reads bytes: "76 87 1", "0..3".
func bytesOf(text string) []byte {
	var b []byte
	for _, n := range numbers(text) {
		b = append(b, byte(n))
	}
	return b
}

// summed are bytes with their sum behind them.
func summed(b []byte) []byte {
	return binary.LittleEndian.AppendUint32(slices.Clone(b), crc32.ChecksumIEEE(b))
}

// around are bytes with an image's first three ahead of them, and the sum behind.
func around(b []byte) []byte { return summed(append([]byte{76, 87, 1}, b...)) }

// plain is a thing as a text in which nil and empty lists are the same.
func plain(thing any) string { return fmt.Sprintf("%v", thing) }

func wantSame(t *testing.T, what string, got, want any) {
	t.Helper()
	if got, want := plain(got), plain(want); got != want {
		t.Errorf("%s: %.900s, want %.900s", what, got, want)
	}
}

// encoded is an image as bytes.
func encoded(t *testing.T, what string, m api.Image) []byte {
	t.Helper()
	b, fault := Encode(m)
	if fault != (api.Fault{}) {
		t.Fatalf("%s: Encode: fault %v, want none: %.900s", what, fault, plain(m))
	}
	return b
}

// wantEncoded asks for an image's bytes.
func wantEncoded(t *testing.T, what string, m api.Image, want []byte) {
	t.Helper()
	wantSame(t, what+": Encode", encoded(t, what, m), want)
}

// wantDecoded asks for the image that bytes are.
func wantDecoded(t *testing.T, what string, b []byte, want api.Image) {
	t.Helper()
	m, fault := Decode(b)
	wantSame(t, what+": Decode", []any{m, fault}, []any{want, api.Fault{}})
}

// wantThereAndBack asks for an image's bytes between the first three and the sum, and
// that they are the image again.
func wantThereAndBack(t *testing.T, what string, m api.Image, between string) {
	t.Helper()
	b := around(bytesOf(between))
	wantEncoded(t, what, m, b)
	wantDecoded(t, what, b, m)
}

// wantRefused asks for a fault of an image, and for nothing beside it.
func wantRefused(t *testing.T, what string, m api.Image, k, at int) {
	t.Helper()
	b, fault := Encode(m)
	if want := (api.Fault{Code: k, At: at}); fault != want || len(b) > 0 {
		t.Errorf("%s: Encode: %.300s, fault %v, want %v alone: %.900s", what, plain(b), fault, want, plain(m))
	}
}

// wantBar asks for a fault of bytes, and for nothing beside it.
func wantBar(t *testing.T, what string, b []byte, k, at int) {
	t.Helper()
	m, fault := Decode(b)
	if want := (api.Fault{Code: k, At: at}); fault != want || plain(m) != plain(api.Image{}) {
		t.Errorf("%s: Decode: %.300s, fault %v, want %v alone: %.900s", what, plain(m), fault, want, plain(b))
	}
}

// wantFault is what stands between the first three bytes and the sum, and its fault: "2 2
// 0 0 ! 5 7".
func wantFault(t *testing.T, text string) {
	t.Helper()
	between, fault, _ := strings.Cut(text, "!")
	wrong := ints(fault)
	wantBar(t, text, around(bytesOf(between)), wrong[0], wrong[1])
}

// dice throws the same numbers in each run.
type dice uint64

func (d *dice) below(n int) int {
	*d = *d*6364136223846793005 + 1442695040888963407
	return int(uint64(*d) >> 33 % uint64(n))
}

func pick[T any](d *dice, list []T) T { return list[d.below(len(list))] }
