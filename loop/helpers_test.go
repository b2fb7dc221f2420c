package loop

import (
	"cmp"
	"fmt"
	"math"
	"slices"
	"strconv"
	"strings"
	"testing"

	"loomwork/api"
)

const least, greatest = math.MinInt64, math.MaxInt64

// operators by their names.
func operators() map[string]api.Push {
	all := map[string]api.Push{"sel": {Op: api.PSel}}
	for i, name := range strings.Fields("add sub mul div mod min max less eq and or xor") {
		all[name] = api.Push{Op: api.PBin, K: api.KAdd + i}
	}
	all["neg"] = api.Push{Op: api.PUn, K: api.KNeg}
	all["not"] = api.Push{Op: api.PUn, K: api.KNot}
	return all
}

// number reads a number; - is the least and + the greatest one.
func number(text string) int64 {
	switch text {
	case "-":
		return least
	case "+":
		return greatest
	}
	n, err := strconv.ParseInt(text, 10, 64)
	if err != nil {
		panic(err)
	}
	return n
}

// numbers reads numbers with spaces between them.
func numbers(text string) []int64 {
	var list []int64
	for _, word := range strings.Fields(text) {
		list = append(list, number(word))
	}
	return list
}

func ints(text string) []int {
	var list []int
	for _, n := range numbers(text) {
		list = append(list, int(n))
	}
	return list
}

// tree reads steps: "c4" is the cell 4, "a4" the cell 4 + k, "t4,3" of the 3 cells from 4
// on the one at the number, or else the other one, "k" is k, "k2" is k + 2; operators are names,
// "sel" the choice; what else stands there is a number.
func tree(text string) []api.Push {
	var steps []api.Push
	for _, word := range strings.Fields(text) {
		steps = append(steps, push(word))
	}
	return steps
}

func push(word string) api.Push {
	if p, isOperator := operators()[word]; isOperator {
		return p
	}
	switch word[0] {
	case 'c':
		return sca(int(number(word[1:])))
	case 'a':
		return arr(int(number(word[1:])))
	case 'k':
		return idx(number(cmp.Or(word[1:], "0")))
	case 't':
		first, count, _ := strings.Cut(word[1:], ",")
		return at(int(number(first)), number(count))
	}
	return num(number(word))
}

func num(n int64) api.Push { return api.Push{Op: api.PNum, N: n} }

func sca(v int) api.Push { return api.Push{Op: api.PSca, V: v} }

func arr(v int) api.Push { return api.Push{Op: api.PArr, V: v} }

func idx(n int64) api.Push { return api.Push{Op: api.PIdx, N: n} }

func at(v int, n int64) api.Push { return api.Push{Op: api.PAt, V: v, N: n} }

func un(k int) api.Push { return api.Push{Op: api.PUn, K: k} }

func bin(k int) api.Push { return api.Push{Op: api.PBin, K: k} }

func one(to int, e string) api.Loop { return api.Loop{Op: api.LOne, To: to, E: tree(e)} }

func each(to, n int, e string) api.Loop { return api.Loop{Op: api.LEach, N: n, To: to, E: tree(e)} }

func fold(k, to, n int, f, e string) api.Loop {
	return api.Loop{Op: api.LFold, K: k, N: n, To: to, F: tree(f), E: tree(e)}
}

func scan(k, to, n int, f, e string) api.Loop {
	return api.Loop{Op: api.LScan, K: k, N: n, To: to, F: tree(f), E: tree(e)}
}

// over is steps over so many cells; what is given and told are lists of cells: "1 2 > 0".
func over(cells int, lists string, steps ...api.Loop) api.Loops {
	put, get, _ := strings.Cut(lists, ">")
	return api.Loops{Cells: cells, Put: ints(put), Get: ints(get), Steps: steps}
}

// plain is a thing as a text in which nil and empty lists are the same.
func plain(thing any) string { return fmt.Sprintf("%v", thing) }

func wantSame(t *testing.T, what string, got, want any) {
	t.Helper()
	if got, want := plain(got), plain(want); got != want {
		t.Errorf("%s: %.900s, want %.900s", what, got, want)
	}
}

func begun(t *testing.T, l api.Loops) *Machine {
	t.Helper()
	m, fault := New(l)
	if fault != (api.Fault{}) || m == nil {
		t.Fatalf("New: %v, fault %v: %.900s", m, fault, plain(l))
	}
	return m
}

// wantRight asks that there is no fault, and that all cells are 0.
func wantRight(t *testing.T, what string, l api.Loops) *Machine {
	t.Helper()
	if fault := Check(l); fault != (api.Fault{}) {
		t.Errorf("%s: fault %v, want none: %.900s", what, fault, plain(l))
		return nil
	}
	m := begun(t, l)
	if !slices.Equal(m.Cells(), make([]int64, l.Cells)) {
		t.Errorf("%s: cells at first %.900s, want %d times 0", what, plain(m.Cells()), l.Cells)
	}
	return m
}

// wantFault asks for a fault of Check and of New, and for no machine beside it.
func wantFault(t *testing.T, what string, l api.Loops, code, at int) {
	t.Helper()
	want := api.Fault{Code: code, At: at}
	if fault := Check(l); fault != want {
		t.Errorf("%s: Check's fault %v, want %v: %.900s", what, fault, want, plain(l))
	}
	if m, fault := New(l); fault != want || m != nil {
		t.Errorf("%s: New: %v, fault %v, want %v alone", what, m, fault, want)
	}
}

// wantStep asks of a step whether it may stand over so many cells.
func wantStep(t *testing.T, what string, cells int, s api.Loop, isRight bool) {
	t.Helper()
	l := api.Loops{Cells: cells, Steps: []api.Loop{one(0, "1"), s, one(0, "2")}}
	if isRight {
		wantRight(t, what, l)
		return
	}
	wantFault(t, what, l, api.ErrForm, 1)
}

// wantRow asks for what stands behind the arrow of what stands in front of it: "1 2 > 3";
// or for ErrRow, if a mark stands there: "1 2 !".
func wantRow(t *testing.T, what string, m *Machine, text string) {
	t.Helper()
	if given, _, isWrong := strings.Cut(text, "!"); isWrong {
		wantWrong(t, what, m, numbers(given))
		return
	}
	given, told, _ := strings.Cut(text, ">")
	wantTold(t, what, m, numbers(given), numbers(told))
}

func wantTold(t *testing.T, what string, m *Machine, in, want []int64) {
	t.Helper()
	got, fault := m.Row(in)
	if fault != (api.Fault{}) || !slices.Equal(got, want) {
		t.Errorf("%s: of %.300s: %.900s, fault %v, want %.900s", what, plain(in), plain(got), fault, plain(want))
	}
}

// wantWrong asks for ErrRow and nothing beside it, and that the cells are as they were.
func wantWrong(t *testing.T, what string, m *Machine, in []int64) {
	t.Helper()
	before := m.Cells()
	got, fault := m.Row(in)
	if fault != (api.Fault{Code: api.ErrRow, At: -1}) || len(got) > 0 {
		t.Errorf("%s: of %.300s: %.300s, fault %v, want ErrRow at -1", what, plain(in), plain(got), fault)
	}
	wantSame(t, what+": cells", m.Cells(), before)
}

// wantRows gives loops rows from their beginning on.
func wantRows(t *testing.T, what string, l api.Loops, rows ...string) *Machine {
	t.Helper()
	m := wantRight(t, what, l)
	for i, text := range rows {
		wantRow(t, fmt.Sprint(what, ", row ", i), m, text)
	}
	return m
}

// wantCells asks for all cells behind a row that puts numbers into the first ones, and
// tells nothing.
func wantCells(t *testing.T, what, given, want string, steps ...api.Loop) {
	t.Helper()
	in, cells := numbers(given), numbers(want)
	m := begun(t, api.Loops{Cells: len(cells), Put: upTo(0, len(in)), Steps: steps})
	wantTold(t, what, m, in, nil)
	wantSame(t, what, m.Cells(), cells)
}

func upTo(from, to int) []int {
	var list []int
	for i := from; i < to; i++ {
		list = append(list, i)
	}
	return list
}

// dice throws the same numbers in each run.
type dice uint64

func (d *dice) below(n int) int {
	*d = *d*6364136223846793005 + 1442695040888963407
	return int(uint64(*d) >> 33 % uint64(n))
}

func pick[T any](d *dice, list []T) T { return list[d.below(len(list))] }

// someNumbers are small ones, the least and the greatest, and some between.
func someNumbers() []int64 {
	list := []int64{1 << 31, 1<<31 - 1, -1 << 31, 1 << 32, 1<<32 + 1, -1 << 32, 3037000500, 1 << 62, 1000000007}
	for i := int64(0); i < 5; i++ {
		list = append(list, i, -i, least+i, greatest-i)
	}
	return list
}
