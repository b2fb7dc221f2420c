package place

import (
	"fmt"
	"math"
	"slices"
	"strconv"
	"strings"
	"testing"

	"loomwork/api"
)

const least, greatest = math.MinInt64, math.MaxInt64

// types reads variables: "i b2" is a number, and an array of two truths.
func types(text string) []api.Var {
	var list []api.Var
	for _, word := range strings.Fields(text) {
		n, _ := strconv.Atoi(word[1:])
		list = append(list, api.Var{Elem: word[0], N: n})
	}
	return list
}

func numbers(count int) []api.Var { return slices.Repeat(types("i"), count) }

func upTo(from, to int) []int {
	var list []int
	for i := from; i < to; i++ {
		list = append(list, i)
	}
	return list
}

func num(n int64) api.Push { return api.Push{Op: api.PNum, N: n} }

func sca(v int) api.Push { return api.Push{Op: api.PSca, V: v} }

func arr(v int, n int64) api.Push { return api.Push{Op: api.PArr, V: v, N: n} }

func at(v int) api.Push { return api.Push{Op: api.PAt, V: v} }

func bin(k int) api.Push { return api.Push{Op: api.PBin, K: k} }

func rule(op, k, out int, a ...int) api.Rule { return api.Rule{Op: op, K: k, Out: out, A: a} }

func pre(out, first, then int) api.Rule { return rule(api.QPre, 0, out, first, then) }

func copies(out, of int) api.Rule { return rule(api.QCopy, 0, out, of) }

func number(out int, n int64) api.Rule { return api.Rule{Op: api.QNum, Out: out, N: n} }

func each(out int, steps ...api.Push) api.Rule { return api.Rule{Op: api.QEach, Out: out, E: steps} }

// list reads numbers with a comma or a space between them.
func list(text string) []int {
	var all []int
	for _, name := range strings.FieldsFunc(text, func(r rune) bool { return r == ',' || r == ' ' }) {
		v, err := strconv.Atoi(name)
		if err != nil {
			panic(err)
		}
		all = append(all, v)
	}
	return all
}

// read reads systems of numbers, whose variables count from 0 on in the order of the
// words: "+4" is In, of 4 cells (0: a scalar); "-4" nobody makes; ":4" is made by a rule,
// of nothing; ":4=0" is made of 0 cell by cell; ":4@0" is made of one cell of 0, by PAt;
// ":4~0" is made by QCopy of 0; ":4=0@1" is made of 0 and 1; "<4,0,1" is made by QPre of 0
// and 1. ">0,1" are Out.
func read(text string) api.System {
	s := api.System{}
	for _, word := range strings.Fields(text) {
		if word[0] == '>' {
			s.Out = list(word[1:])
			continue
		}
		size, of := word[1:], ""
		if at := strings.IndexAny(word, "=@~,"); at > 0 {
			size, of = word[1:at], word[at:]
		}
		variable := len(s.Vars)
		s.Vars = append(s.Vars, api.Var{Elem: 'i', N: list(size)[0]})
		switch word[0] {
		case '+':
			s.In = append(s.In, variable)
		case ':':
			s.Rules = append(s.Rules, readRule(s.Vars, variable, of))
		case '<':
			s.Rules = append(s.Rules, rule(api.QPre, 0, variable, list(of)...))
		}
	}
	return s
}

// readRule reads what a rule makes its variable of.
func readRule(vars []api.Var, out int, text string) api.Rule {
	if of, isCopy := strings.CutPrefix(text, "~"); isCopy {
		return copies(out, list(of)[0])
	}
	r := each(out, num(1))
	for text != "" {
		sign := text[0]
		of := text[1:]
		text = ""
		if at := strings.IndexAny(of, "=@"); at > 0 {
			of, text = of[:at], of[at:]
		}
		r.E = append(append(r.E, useOf(vars, list(of)[0], sign)...), bin(api.KAdd))
	}
	return r
}

// useOf are the steps that use a variable.
func useOf(vars []api.Var, variable int, sign byte) []api.Push {
	switch {
	case vars[variable].N == 0:
		return []api.Push{sca(variable)}
	case sign == '@':
		return []api.Push{num(0), num(1), at(variable)}
	}
	return []api.Push{arr(variable, 0)}
}

// plain is a thing as a text in which nil and empty lists are the same.
func plain(thing any) string { return fmt.Sprintf("%v", thing) }

func wantSame(t *testing.T, what string, got, want any) {
	t.Helper()
	if got, want := plain(got), plain(want); got != want {
		t.Errorf("%s: %.600s, want %.600s", what, got, want)
	}
}

// wantPlan asks for these places, and as many cells.
func wantPlan(t *testing.T, what string, s api.System, places, keep []int, cells int) {
	t.Helper()
	got, fault := Make(s)
	same := slices.Equal(got.At, places) && slices.Equal(got.Keep, keep) && got.Cells == cells
	if fault != (api.Fault{}) || !same {
		t.Errorf("%s: %v, fault %v, want %v", what, got, fault, api.Plan{At: places, Keep: keep, Cells: cells})
	}
}

// wantRead is wantPlan of what read reads, if no rule keeps anything.
func wantRead(t *testing.T, text, places string, cells int) {
	t.Helper()
	s := read(text)
	wantPlan(t, text, s, list(places), slices.Repeat([]int{-1}, len(s.Rules)), cells)
}

// wantKept is wantPlan of what read reads.
func wantKept(t *testing.T, text, places, keep string, cells int) {
	t.Helper()
	wantPlan(t, text, read(text), list(places), list(keep), cells)
}

// wantFault asks for a fault, and for nothing beside it.
func wantFault(t *testing.T, what string, s api.System, code, at int) {
	t.Helper()
	got, fault := Make(s)
	nothing := len(got.At) == 0 && len(got.Keep) == 0 && got.Cells == 0
	if want := (api.Fault{Code: code, At: at}); fault != want || !nothing {
		t.Errorf("%s: %v, fault %v, want the fault %v alone", what, got, fault, want)
	}
}

// wantOver asks whether a rule may make its variable over another one.
func wantOver(t *testing.T, what string, s api.System, r api.Rule, u int, want bool) {
	t.Helper()
	if got := Over(s, r, u); got != want {
		t.Errorf("%s: Over %d: %v, want %v", what, u, got, want)
	}
}

// dice throws the same numbers in each run.
type dice uint64

func (d *dice) below(n int) int {
	*d = *d*6364136223846793005 + 1442695040888963407
	return int(uint64(*d) >> 33 % uint64(n))
}

func pick[T any](d *dice, list []T) T { return list[d.below(len(list))] }

func shuffle[T any](d *dice, list []T) {
	for i := range list {
		other := d.below(i + 1)
		list[i], list[other] = list[other], list[i]
	}
}
