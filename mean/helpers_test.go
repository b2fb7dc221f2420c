package mean

import (
	"fmt"
	"math"
	"slices"
	"strconv"
	"strings"
	"testing"

	"loomwork/api"
)

const least, greatest = math.MinInt64, math.MaxInt64

// types reads variables: "i b2" is a number, and an array of two truths.
func types(text string) []api.Var {
	var list []api.Var
	for _, word := range strings.Fields(text) {
		n, _ := strconv.Atoi(word[1:])
		list = append(list, api.Var{Elem: word[0], N: n})
	}
	return list
}

func upTo(from, to int) []int {
	var list []int
	for i := from; i < to; i++ {
		list = append(list, i)
	}
	return list
}

// cells reads numbers; - is the least and + the greatest one.
func cells(text string) []int64 {
	var list []int64
	for _, word := range strings.Fields(text) {
		n, err := strconv.ParseInt(word, 10, 64)
		switch {
		case word == "-":
			n = least
		case word == "+":
			n = greatest
		case err != nil:
			panic(err)
		}
		list = append(list, n)
	}
	return list
}

func rule(op, k, out int, a ...int) api.Rule { return api.Rule{Op: op, K: k, Out: out, A: a} }

func pre(out, first, then int) api.Rule { return rule(api.QPre, 0, out, first, then) }

func number(out int, n int64) api.Rule { return api.Rule{Op: api.QNum, Out: out, N: n} }

// eachOf is the rule that makes a tree in each cell.
func eachOf(out int, steps ...api.Push) api.Rule {
	return api.Rule{Op: api.QEach, Out: out, E: steps}
}

func num(n int64) api.Push { return api.Push{Op: api.PNum, N: n} }

func truth(n int64) api.Push { return api.Push{Op: api.PNum, K: 1, N: n} }

func sca(v int) api.Push { return api.Push{Op: api.PSca, V: v} }

func arr(v int, n int64) api.Push { return api.Push{Op: api.PArr, V: v, N: n} }

func idx(n int64) api.Push { return api.Push{Op: api.PIdx, N: n} }

func un(k int) api.Push { return api.Push{Op: api.PUn, K: k} }

func bin(k int) api.Push { return api.Push{Op: api.PBin, K: k} }

func sel() api.Push { return api.Push{Op: api.PSel} }

func at(v int) api.Push { return api.Push{Op: api.PAt, V: v} }

// over is a system of rules that make the variables behind those that are In, so
// many as there are words in front of the arrow: "i b3 > i".
func over(text string, rules ...api.Rule) api.System {
	in, made, _ := strings.Cut(text, ">")
	vars := types(in)
	s := api.System{Vars: append(vars, types(made)...), In: upTo(0, len(vars)), Rules: rules}
	s.Out = upTo(len(vars), len(s.Vars))
	return s
}

// plain is a thing as a text in which nil and empty lists are the same.
func plain(thing any) string { return fmt.Sprintf("%v", thing) }

func wantSame(t *testing.T, what string, got, want any) {
	t.Helper()
	if got, want := plain(got), plain(want); got != want {
		t.Errorf("%s: %.900s, want %.900s", what, got, want)
	}
}

func begun(t *testing.T, s api.System) *Mean {
	t.Helper()
	m, fault := New(s)
	if fault.Code != 0 || m == nil {
		t.Fatalf("New: %v, fault %v: %.900s", m, fault, plain(s))
	}
	return m
}

// wantRow asks for what stands behind the arrow of what stands in front of it:
// "1 2 > 3"; or for ErrRow at the place behind the mark, and for nothing beside it:
// "1 ! -1".
func wantRow(t *testing.T, what string, m *Mean, text string) {
	t.Helper()
	given, place, isWrong := strings.Cut(text, "!")
	if !isWrong {
		given, told, _ := strings.Cut(text, ">")
		wantTold(t, what, m, cells(given), cells(told))
		return
	}
	wantWrong(t, what, m, cells(given), int(cells(place)[0]))
}

func wantTold(t *testing.T, what string, m *Mean, in, want []int64) {
	t.Helper()
	got, fault := m.Row(in)
	if fault != (api.Fault{}) || !slices.Equal(got, want) {
		t.Errorf("%s: of %.300s: %.900s, fault %v, want %.900s", what, plain(in), plain(got), fault, plain(want))
	}
}

func wantWrong(t *testing.T, what string, m *Mean, in []int64, at int) {
	t.Helper()
	got, fault := m.Row(in)
	if want := (api.Fault{Code: api.ErrRow, At: at}); fault != want || len(got) > 0 {
		t.Errorf("%s: of %.300s: %.300s, fault %v, want %v", what, plain(in), plain(got), fault, want)
	}
}

// wantRows gives a system rows from its beginning on.
func wantRows(t *testing.T, what string, s api.System, rows ...string) {
	t.Helper()
	m := begun(t, s)
	for i, text := range rows {
		wantRow(t, fmt.Sprint(what, ", row ", i), m, text)
	}
}

// wantFault asks for New's fault, and for no Mean beside it.
func wantFault(t *testing.T, what string, s api.System, code, at int) {
	t.Helper()
	m, fault := New(s)
	if want := (api.Fault{Code: code, At: at}); fault != want || m != nil {
		t.Errorf("%s: %v, fault %v, want %v: %.900s", what, m, fault, want, plain(s))
	}
}

// dice throws the same numbers in each run.
type dice uint64

func (d *dice) below(n int) int {
	*d = *d*6364136223846793005 + 1442695040888963407
	return int(uint64(*d) >> 33 % uint64(n))
}

func pick[T any](d *dice, list []T) T { return list[d.below(len(list))] }

func shuffle[T any](d *dice, list []T) {
	for i := range list {
		other := d.below(i + 1)
		list[i], list[other] = list[other], list[i]
	}
}

// someNumbers are small ones, the least and the greatest, and some between.
func someNumbers() []int64 {
	list := []int64{1 << 31, 1<<31 - 1, -1 << 31, 1 << 32, 1<<32 + 1, -1 << 32, 3037000500, 1 << 62, 1000000007}
	for i := int64(0); i < 5; i++ {
		list = append(list, i, -i, least+i, greatest-i)
	}
	return list
}

// thrownCells is so many numbers, or truths.
func thrownCells(d *dice, v api.Var) []int64 {
	var list []int64
	for range max(1, v.N) {
		n := int64(d.below(9) - 3)
		switch {
		case v.Elem == 'b':
			n = int64(d.below(2))
		case d.below(6) == 0:
			n = pick(d, someNumbers())
		}
		list = append(list, n)
	}
	return list
}
