package fuse

import (
	"fmt"
	"math"
	"reflect"
	"slices"
	"strconv"
	"strings"
	"testing"

	"loomwork/api"
)

const least, greatest = math.MinInt64, math.MaxInt64

// types reads variables: "i b2" is a number, and an array of two truths.
func types(text string) []api.Var {
	var list []api.Var
	for _, word := range strings.Fields(text) {
		n, _ := strconv.Atoi(word[1:])
		list = append(list, api.Var{Elem: word[0], N: n})
	}
	return list
}

func upTo(from, to int) []int {
	var list []int
	for i := from; i < to; i++ {
		list = append(list, i)
	}
	return list
}

func num(n int64) api.Push { return api.Push{Op: api.PNum, N: n} }

func truth(n int64) api.Push { return api.Push{Op: api.PNum, K: 1, N: n} }

func sca(v int) api.Push { return api.Push{Op: api.PSca, V: v} }

func arr(v int, n int64) api.Push { return api.Push{Op: api.PArr, V: v, N: n} }

func idx(n int64) api.Push { return api.Push{Op: api.PIdx, N: n} }

func un(k int) api.Push { return api.Push{Op: api.PUn, K: k} }

func bin(k int) api.Push { return api.Push{Op: api.PBin, K: k} }

func add() api.Push { return bin(api.KAdd) }

func sel() api.Push { return api.Push{Op: api.PSel} }

func at(v int) api.Push { return api.Push{Op: api.PAt, V: v} }

func rule(op, k, out int, a ...int) api.Rule { return api.Rule{Op: op, K: k, Out: out, A: a} }

func pre(out, first, then int) api.Rule { return rule(api.QPre, 0, out, first, then) }

func number(out int, n int64) api.Rule { return api.Rule{Op: api.QNum, Out: out, N: n} }

func slice(out, of int, n int64) api.Rule {
	return api.Rule{Op: api.QSlice, Out: out, N: n, A: []int{of}}
}

// each is the rule that makes a tree in each cell.
func each(out int, steps ...api.Push) api.Rule {
	return api.Rule{Op: api.QEach, Out: out, E: steps}
}

func foldE(k, out int, n int64, from int, steps ...api.Push) api.Rule {
	return api.Rule{Op: api.QFoldE, K: k, Out: out, N: n, A: []int{from}, E: steps}
}

func scanE(k, out, from int, steps ...api.Push) api.Rule {
	return api.Rule{Op: api.QScanE, K: k, Out: out, A: []int{from}, E: steps}
}

// over is a system of rules over variables; what no rule makes is In, and the last
// variable that one makes is Out.
func over(text string, rules ...api.Rule) api.System {
	s := api.System{Vars: types(text), Rules: rules}
	for v := range s.Vars {
		if isMade(s, v) {
			s.Out = []int{v}
		} else {
			s.In = append(s.In, v)
		}
	}
	return s
}

func isMade(s api.System, v int) bool {
	return slices.ContainsFunc(s.Rules, func(r api.Rule) bool { return r.Out == v })
}

// with is the system with other rules.
func with(s api.System, rules ...api.Rule) api.System {
	s.Rules = rules
	return s
}

// telling is the system with another Out.
func telling(s api.System, out ...int) api.System {
	s.Out = out
	return s
}

// plain is a thing as a text in which nil and empty lists are the same.
func plain(thing any) string { return fmt.Sprintf("%v", thing) }

func wantSame(t *testing.T, what string, got, want any) {
	t.Helper()
	if got, want := plain(got), plain(want); got != want {
		t.Errorf("%s: %.900s, want %.900s", what, got, want)
	}
}

// normOf is the normal form of what is a system.
func normOf(t *testing.T, what string, s api.System) api.System {
	t.Helper()
	normal, fault := Norm(s)
	if fault != (api.Fault{}) {
		t.Fatalf("%s: Norm's fault %v: %.900s", what, fault, plain(s))
	}
	return normal
}

func fusedOf(t *testing.T, what string, s api.System) api.System {
	t.Helper()
	fused, fault := Fuse(s)
	if fault != (api.Fault{}) {
		t.Fatalf("%s: Fuse's fault %v: %.900s", what, fault, plain(s))
	}
	return fused
}

// wantNorm asks for a normal form of these rules, and that all else is as it was.
func wantNorm(t *testing.T, what string, s api.System, rules ...api.Rule) {
	t.Helper()
	wantSame(t, what+": Norm", normOf(t, what, s), with(s, rules...))
	wantFollows(t, what, s)
}

// wantFused asks for these rules of Fuse, and that all else is as it was.
func wantFused(t *testing.T, what string, s api.System, rules ...api.Rule) {
	t.Helper()
	wantSame(t, what+": Fuse", fusedOf(t, what, s), with(s, rules...))
	wantFollows(t, what, s)
}

// wantStays asks that no rule goes.
func wantStays(t *testing.T, what string, s api.System) {
	t.Helper()
	wantFused(t, what+": stays", s, normOf(t, what, s).Rules...)
}

// wantFault asks for a fault from both, and for nothing beside it.
func wantFault(t *testing.T, what string, s api.System, code, at int) {
	t.Helper()
	for name, call := range map[string]func(api.System) (api.System, api.Fault){"Norm": Norm, "Fuse": Fuse} {
		got, fault := call(s)
		wantSame(t, what+": "+name+"'s fault", fault, api.Fault{Code: code, At: at})
		if !reflect.DeepEqual(got, api.System{}) {
			t.Errorf("%s: %s: %.600s beside a fault", what, name, plain(got))
		}
	}
}

// dice throws the same numbers in each run.
type dice uint64

func (d *dice) below(n int) int {
	*d = *d*6364136223846793005 + 1442695040888963407
	return int(uint64(*d) >> 33 % uint64(n))
}

func pick[T any](d *dice, list []T) T { return list[d.below(len(list))] }

func shuffle[T any](d *dice, list []T) {
	for i := range list {
		other := d.below(i + 1)
		list[i], list[other] = list[other], list[i]
	}
}
