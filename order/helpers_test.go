package order

import (
	"fmt"
	"math"
	"reflect"
	"slices"
	"strconv"
	"strings"
	"testing"

	"loomwork/api"
)

const least, greatest = math.MinInt64, math.MaxInt64

// types reads variables: "i b2" is a number, and an array of two truths.
func types(text string) []api.Var {
	var list []api.Var
	for _, word := range strings.Fields(text) {
		n, _ := strconv.Atoi(word[1:])
		list = append(list, api.Var{Elem: word[0], N: n})
	}
	return list
}

func numbers(count int) []api.Var { return slices.Repeat(types("i"), count) }

func upTo(from, to int) []int {
	var list []int
	for i := from; i < to; i++ {
		list = append(list, i)
	}
	return list
}

func num(n int64) api.Push { return api.Push{Op: api.PNum, N: n} }

func sca(v int) api.Push { return api.Push{Op: api.PSca, V: v} }

func arr(v int, n int64) api.Push { return api.Push{Op: api.PArr, V: v, N: n} }

func at(v int) api.Push { return api.Push{Op: api.PAt, V: v} }

// sum makes the number out of the sum of others, in the order in which they stand.
func sum(out int, of ...int) api.Rule {
	r := api.Rule{Op: api.QEach, Out: out, E: []api.Push{num(1)}}
	for _, v := range of {
		r.E = append(r.E, sca(v), api.Push{Op: api.PBin, K: api.KAdd})
	}
	return r
}

func pre(out, first, then int) api.Rule {
	return api.Rule{Op: api.QPre, Out: out, A: []int{first, then}}
}

// read reads rules of numbers: "0:1,2 1: 2<3,0" are three, of which the first makes
// 0 of 1 and 2, the second makes 1 of nothing, and the third makes 2 by QPre of 3
// and 0. What no rule makes is In.
func read(text string) api.System {
	s := api.System{}
	most := -1
	var made []int
	for _, word := range strings.Fields(text) {
		front, behind, isSum := strings.Cut(word, ":")
		if !isSum {
			front, behind, _ = strings.Cut(word, "<")
		}
		out, _ := strconv.Atoi(front)
		var of []int
		for _, name := range strings.FieldsFunc(behind, func(r rune) bool { return r == ',' }) {
			v, _ := strconv.Atoi(name)
			of = append(of, v)
		}
		r := sum(out, of...)
		if !isSum {
			r = pre(out, of[0], of[1])
		}
		s.Rules = append(s.Rules, r)
		made, most = append(made, out), max(most, out, slices.Max(append(of, -1)))
	}
	s.Vars = numbers(most + 1)
	for v := range s.Vars {
		if !slices.Contains(made, v) {
			s.In = append(s.In, v)
		}
	}
	return s
}

// plain is a thing as a text in which nil and empty lists are the same.
func plain(thing any) string { return fmt.Sprintf("%v", thing) }

func wantSame(t *testing.T, what string, got, want any) {
	t.Helper()
	if got, want := plain(got), plain(want); got != want {
		t.Errorf("%s: %.600s, want %.600s", what, got, want)
	}
}

// wantSorted asks for the system's rules in the order of these numbers, for all
// else as it was, and that there is no round.
func wantSorted(t *testing.T, what string, s api.System, numbers ...int) {
	t.Helper()
	want := s
	want.Rules = nil
	for _, number := range numbers {
		want.Rules = append(want.Rules, s.Rules[number])
	}
	got, fault := Sort(s)
	wantSame(t, what+": Sort's fault", fault, api.Fault{})
	wantSame(t, what+": Sort", got, want)
	wantSame(t, what+": Sorted", Sorted(s), slices.IsSorted(numbers))
	wantSame(t, what+": Sorted of what was sorted", Sorted(got), true)
	round, fault := Round(s)
	wantSame(t, what+": Round's fault", fault, api.Fault{})
	wantSame(t, what+": Round", round, []int{})
}

// wantNothing asks that a fault comes from Sort with no system.
func wantNothing(t *testing.T, what string, s api.System, want api.Fault) {
	t.Helper()
	got, fault := Sort(s)
	wantSame(t, what+": Sort's fault", fault, want)
	if !reflect.DeepEqual(got, api.System{}) {
		t.Errorf("%s: Sort: %.600s beside a fault", what, plain(got))
	}
	wantSame(t, what+": Sorted", Sorted(s), false)
}

// wantRound asks that Sort fails at that rule, and for the round.
func wantRound(t *testing.T, what string, s api.System, first int, round ...int) {
	t.Helper()
	wantNothing(t, what, s, api.Fault{Code: api.ErrRound, At: first})
	got, fault := Round(s)
	wantSame(t, what+": Round's fault", fault, api.Fault{})
	wantSame(t, what+": Round", got, round)
}

// wantFault asks for sys.Check's fault of all that tells one.
func wantFault(t *testing.T, what string, s api.System, code, at int) {
	t.Helper()
	want := api.Fault{Code: code, At: at}
	wantNothing(t, what, s, want)
	round, fault := Round(s)
	wantSame(t, what+": Round's fault", fault, want)
	if len(round) > 0 {
		t.Errorf("%s: Round: %v beside a fault", what, round)
	}
}

// dice throws the same numbers in each run.
type dice uint64

func (d *dice) below(n int) int {
	*d = *d*6364136223846793005 + 1442695040888963407
	return int(uint64(*d) >> 33 % uint64(n))
}

func pick[T any](d *dice, list []T) T { return list[d.below(len(list))] }
