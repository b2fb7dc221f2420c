package live

import (
	"fmt"
	"math"
	"slices"
	"strconv"
	"strings"
	"testing"

	"loomwork/api"
)

const least, greatest = math.MinInt64, math.MaxInt64

// types reads variables: "i b2" is a number, and an array of two truths.
func types(text string) []api.Var {
	var list []api.Var
	for _, word := range strings.Fields(text) {
		n, _ := strconv.Atoi(word[1:])
		list = append(list, api.Var{Elem: word[0], N: n})
	}
	return list
}

func numbers(count int) []api.Var { return slices.Repeat(types("i"), count) }

func upTo(from, to int) []int {
	var list []int
	for i := from; i < to; i++ {
		list = append(list, i)
	}
	return list
}

func num(n int64) api.Push { return api.Push{Op: api.PNum, N: n} }

func sca(v int) api.Push { return api.Push{Op: api.PSca, V: v} }

func arr(v int, n int64) api.Push { return api.Push{Op: api.PArr, V: v, N: n} }

func at(v int) api.Push { return api.Push{Op: api.PAt, V: v} }

func bin(k int) api.Push { return api.Push{Op: api.PBin, K: k} }

func rule(op, k, out int, a ...int) api.Rule { return api.Rule{Op: op, K: k, Out: out, A: a} }

func pre(out, first, then int) api.Rule { return rule(api.QPre, 0, out, first, then) }

func copies(out, of int) api.Rule { return rule(api.QCopy, 0, out, of) }

func number(out int, n int64) api.Rule { return api.Rule{Op: api.QNum, Out: out, N: n} }

func each(out int, steps ...api.Push) api.Rule { return api.Rule{Op: api.QEach, Out: out, E: steps} }

// sum makes a number out of the sum of others, in the order in which they stand.
func sum(out int, of ...int) api.Rule {
	r := each(out, num(1))
	for _, v := range of {
		r.E = append(r.E, sca(v), bin(api.KAdd))
	}
	return r
}

// list reads numbers with a comma between them.
func list(text string) []int {
	var all []int
	for _, name := range strings.FieldsFunc(text, func(r rune) bool { return r == ',' }) {
		v, err := strconv.Atoi(name)
		if err != nil {
			panic(err)
		}
		all = append(all, v)
	}
	return all
}

// read reads rules of numbers, and Out: "0:1,2 1: 2<3,0 >0,3 -4" are three, of which
// the first makes 0 of 1 and 2, the second makes 1 of nothing, and the third makes 2 by
// QPre of 3 and 0; Out are 0 and 3; 4 is neither made nor In. What else no rule makes is
// In.
func read(text string) api.System {
	s := api.System{}
	most := -1
	var missing []int
	for _, word := range strings.Fields(text) {
		if told, isOut := strings.CutPrefix(word, ">"); isOut {
			s.Out = list(told)
			most = max(most, slices.Max(append(list(told), -1)))
			continue
		}
		if names, isMissing := strings.CutPrefix(word, "-"); isMissing {
			missing = list(names)
			most = max(most, slices.Max(missing))
			continue
		}
		at := strings.IndexAny(word, ":<")
		out, of := list(word[:at])[0], list(word[at+1:])
		r := sum(out, of...)
		if word[at] == '<' {
			r = pre(out, of[0], of[1])
		}
		s.Rules = append(s.Rules, r)
		most = max(most, out, slices.Max(append(of, -1)))
	}
	s.Vars = numbers(most + 1)
	for v := range s.Vars {
		isMade := slices.ContainsFunc(s.Rules, func(r api.Rule) bool { return r.Out == v })
		if !isMade && !slices.Contains(missing, v) {
			s.In = append(s.In, v)
		}
	}
	return s
}

// readSpans reads spans: "-1~0 0~-1" is from -1 to 0, and from 0 to -1.
func readSpans(text string) []api.Span {
	var spans []api.Span
	for _, word := range strings.Fields(text) {
		from, to, _ := strings.Cut(word, "~")
		spans = append(spans, api.Span{From: list(from)[0], To: list(to)[0]})
	}
	return spans
}

// plain is a thing as a text in which nil and empty lists are the same.
func plain(thing any) string { return fmt.Sprintf("%v", thing) }

func wantSame(t *testing.T, what string, got, want any) {
	t.Helper()
	if got, want := plain(got), plain(want); got != want {
		t.Errorf("%s: %.600s, want %.600s", what, got, want)
	}
}

// wantLive asks for these spans, and the most cells.
func wantLive(t *testing.T, what string, s api.System, want []api.Span, most int) {
	t.Helper()
	got, fault := Spans(s)
	if fault != (api.Fault{}) || !slices.Equal(got, want) {
		t.Errorf("%s: Spans: %v, fault %v, want %v", what, got, fault, want)
	}
	cells, fault := Most(s)
	if fault != (api.Fault{}) || cells != most {
		t.Errorf("%s: Most: %d, fault %v, want %d", what, cells, fault, most)
	}
}

// wantRead is wantLive of what read and readSpans read.
func wantRead(t *testing.T, text, spans string, most int) {
	t.Helper()
	wantLive(t, text, read(text), readSpans(spans), most)
}

// wantFault asks for a fault from both, and for nothing beside it.
func wantFault(t *testing.T, what string, s api.System, code, at int) {
	t.Helper()
	want := api.Fault{Code: code, At: at}
	spans, fault := Spans(s)
	if fault != want || len(spans) > 0 {
		t.Errorf("%s: Spans: %v, fault %v, want the fault %v alone", what, spans, fault, want)
	}
	most, fault := Most(s)
	if fault != want || most != 0 {
		t.Errorf("%s: Most: %d, fault %v, want the fault %v alone", what, most, fault, want)
	}
}

// dice throws the same numbers in each run.
type dice uint64

func (d *dice) below(n int) int {
	*d = *d*6364136223846793005 + 1442695040888963407
	return int(uint64(*d) >> 33 % uint64(n))
}

func pick[T any](d *dice, list []T) T { return list[d.below(len(list))] }

func shuffle[T any](d *dice, list []T) {
	for i := range list {
		other := d.below(i + 1)
		list[i], list[other] = list[other], list[i]
	}
}
