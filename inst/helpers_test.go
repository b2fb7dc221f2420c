package inst

import (
	"fmt"
	"strconv"
	"strings"
	"testing"

	"loomwork/api"
	"loomwork/syntax"
)

// parsed ends the test if the text is no program.
func parsed(t *testing.T, text string) api.Program {
	t.Helper()
	p, fault := syntax.Parse(text)
	if fault.Code != 0 {
		t.Fatalf("Parse(%.300q): fault %v", text, fault)
	}
	return p
}

// madeOf ends the test if the text's program has a fault.
func madeOf(t *testing.T, text string) api.System {
	t.Helper()
	s, fault := Make(parsed(t, text))
	if fault != (api.Fault{}) {
		t.Fatalf("%.600s: fault %v", text, fault)
	}
	return s
}

// told is the same of two systems just if they are: lists without elements are
// one.
func told(s api.System) string { return fmt.Sprint(s) }

// types reads variables: "i b2" is a number, and an array of two truths.
func types(text string) []api.Var {
	var list []api.Var
	for _, word := range strings.Fields(text) {
		n, _ := strconv.Atoi(word[1:])
		list = append(list, api.Var{Elem: word[0], N: n})
	}
	return list
}

// rule without an N.
func rule(op, k, out int, a ...int) api.Rule { return api.Rule{Op: op, K: k, Out: out, A: a} }

// number is the rule that makes a number, or a truth.
func number(out int, n int64) api.Rule { return api.Rule{Op: api.QNum, Out: out, N: n} }

// slice is the rule that makes a piece of an array.
func slice(out int, n int64, of int) api.Rule {
	return api.Rule{Op: api.QSlice, Out: out, N: n, A: []int{of}}
}

func upTo(from, to int) []int {
	var list []int
	for i := from; i < to; i++ {
		list = append(list, i)
	}
	return list
}

// wantMade asks for a system with so many inputs and outputs, which are its
// first variables.
func wantMade(t *testing.T, text string, in, out int, vars string, rules ...api.Rule) {
	t.Helper()
	want := api.System{Vars: types(vars), In: upTo(0, in), Out: upTo(in, in+out), Rules: rules}
	if got := madeOf(t, text); told(got) != told(want) {
		t.Errorf("%.600s:\n%v, want\n%v", text, got, want)
	}
}

func wantFault(t *testing.T, what string, p api.Program, code, at int) {
	t.Helper()
	s, fault := Make(p)
	if fault != (api.Fault{Code: code, At: at}) {
		t.Errorf("%.900s: fault %v, want {%d %d}", what, fault, code, at)
	}
	if code != 0 && (s.Vars != nil || s.In != nil || s.Out != nil || s.Rules != nil) {
		t.Errorf("%.900s: a fault, and %v", what, s)
	}
}

func wantRight(t *testing.T, text string) {
	t.Helper()
	wantFault(t, text, parsed(t, text), 0, 0)
}

func wantWrong(t *testing.T, text string, code, at int) {
	t.Helper()
	wantFault(t, text, parsed(t, text), code, at)
}

// change is a piece of a text, what it becomes, and the fault that comes of it.
type change struct {
	from, to string
	code, at int
}

// in answers the text with the piece changed; false if it does not stand there
// just once.
func (c change) in(text string) (string, bool) {
	return strings.Replace(text, c.from, c.to, 1), strings.Count(text, c.from) == 1
}

// wantInOrder asks for the fault of each change, and, of any two changes that
// can both be made, for that of the one that stands ahead.
func wantInOrder(t *testing.T, text string, changes []change) {
	t.Helper()
	wantRight(t, text)
	for i, c := range changes {
		first, fits := c.in(text)
		if !fits {
			t.Fatalf("%q does not stand once in %q", c.from, text)
		}
		wantWrong(t, first, c.code, c.at)
		pairs := 0
		for _, d := range changes[i+1:] {
			if both, fits := d.in(first); fits {
				wantWrong(t, both, c.code, c.at)
				pairs++
			}
		}
		if behind := len(changes) - i - 1; pairs*2 < behind {
			t.Errorf("%q goes with %d of %d others alone", c.from, pairs, behind)
		}
	}
}

// dice throws the same numbers in each run.
type dice uint64

func (d *dice) below(n int) int {
	*d = *d*6364136223846793005 + 1442695040888963407
	return int(uint64(*d) >> 33 % uint64(n))
}

func pick[T any](d *dice, list []T) T { return list[d.below(len(list))] }
