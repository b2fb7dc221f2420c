package sys

import (
	"strconv"
	"strings"
	"testing"

	"loomwork/api"
)

// counts: how many A a rule of each Op must have, as the chapter lists them.
var counts = [...]int{api.QNum: 0, api.QEach: 0,
	api.QCopy: 1, api.QUn: 1, api.QFill: 1, api.QSlice: 1, api.QFoldE: 1, api.QScanE: 1,
	api.QBin: 2, api.QFold: 2, api.QScan: 2, api.QCat: 2, api.QPre: 2,
	api.QIf: 3, api.QIndex: 3, api.QWith: 3}

// types reads variables: "i b2" is a number, and an array of two truths.
func types(text string) []api.Var {
	var list []api.Var
	for _, word := range strings.Fields(text) {
		n, _ := strconv.Atoi(word[1:])
		list = append(list, api.Var{Elem: word[0], N: n})
	}
	return list
}

func upTo(from, to int) []int {
	var list []int
	for i := from; i < to; i++ {
		list = append(list, i)
	}
	return list
}

// rule without an N.
func rule(op, k, out int, a ...int) api.Rule { return api.Rule{Op: op, K: k, Out: out, A: a} }

// each is the rule that makes a tree in each cell.
func each(out int, steps ...api.Push) api.Rule {
	return api.Rule{Op: api.QEach, Out: out, E: steps}
}

func num(n int64) api.Push { return api.Push{Op: api.PNum, N: n} }

func truthOf(n int64) api.Push { return api.Push{Op: api.PNum, K: 1, N: n} }

func sca(v int) api.Push { return api.Push{Op: api.PSca, V: v} }

func arr(v int, n int64) api.Push { return api.Push{Op: api.PArr, V: v, N: n} }

func idx(n int64) api.Push { return api.Push{Op: api.PIdx, N: n} }

func un(k int) api.Push { return api.Push{Op: api.PUn, K: k} }

func bin(k int) api.Push { return api.Push{Op: api.PBin, K: k} }

func sel() api.Push { return api.Push{Op: api.PSel} }

func at(v int) api.Push { return api.Push{Op: api.PAt, V: v} }

// alone is a system of one rule, which makes the variable 0 of those behind it;
// these, and more that steps may name, are In.
func alone(vars []api.Var, r api.Rule) api.System {
	r.Out, r.A = 0, upTo(1, 1+counts[r.Op])
	return api.System{Vars: vars, In: upTo(1, len(vars)), Out: []int{0}, Rules: []api.Rule{r}}
}

func wantFault(t *testing.T, what string, s api.System, code, at int) {
	t.Helper()
	if got, want := Check(s), (api.Fault{Code: code, At: at}); got != want {
		t.Errorf("%s: %v, want %v: %.900v", what, got, want, s)
	}
}

func wantRight(t *testing.T, what string, s api.System) {
	t.Helper()
	wantFault(t, what, s, 0, 0)
}

// wantFit asks whether the types of the rule that makes the first variable of
// those behind it fit.
func wantFit(t *testing.T, vars string, r api.Rule, want bool) {
	t.Helper()
	code := api.ErrType
	if want {
		code = 0
	}
	wantFault(t, vars, alone(types(vars), r), code, 0)
}

// dice throws the same numbers in each run.
type dice uint64

func (d *dice) below(n int) int {
	*d = *d*6364136223846793005 + 1442695040888963407
	return int(uint64(*d) >> 33 % uint64(n))
}

func pick[T any](d *dice, list []T) T { return list[d.below(len(list))] }
