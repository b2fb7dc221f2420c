package build

import (
	"cmp"
	"fmt"
	"math"
	"slices"
	"strconv"
	"strings"
	"testing"

	"loomwork/api"
	"loomwork/loop"
)

const least, greatest = math.MinInt64, math.MaxInt64

// types reads variables: "i b2" is a number, and an array of two truths.
func types(text string) []api.Var {
	var list []api.Var
	for _, word := range strings.Fields(text) {
		n, _ := strconv.Atoi(word[1:])
		list = append(list, api.Var{Elem: word[0], N: n})
	}
	return list
}

func number(text string) int {
	n, err := strconv.Atoi(text)
	if err != nil {
		panic(err)
	}
	return n
}

// ints reads numbers with spaces between them; "9..12" are 9, 10, 11 and 12.
func ints(text string) []int {
	var list []int
	for _, word := range strings.Fields(text) {
		from, to, isRange := strings.Cut(word, "..")
		if !isRange {
			to = from
		}
		list = append(list, upTo(number(from), number(to)+1)...)
	}
	return list
}

func upTo(from, to int) []int {
	var list []int
	for i := from; i < to; i++ {
		list = append(list, i)
	}
	return list
}

// operators by their names.
func operators() map[string]api.Push {
	all := map[string]api.Push{"sel": {Op: api.PSel}, "true": truth(1), "false": truth(0)}
	for i, name := range strings.Fields("add sub mul div mod min max less eq and or xor") {
		all[name] = bin(api.KAdd + i)
	}
	all["neg"] = api.Push{Op: api.PUn, K: api.KNeg}
	all["not"] = api.Push{Op: api.PUn, K: api.KNot}
	return all
}

// tree reads steps, of variables and of cells alike: "s4" is PSca 4, "a4" PArr 4, "a4+2"
// with N 2, "t4" PAt 4, "t4,3" with N 3, "k" PIdx, "k2" with N 2; operators are names,
// "sel" the choice, "true" and "false" truths; what else stands there is a number.
func tree(text string) []api.Push {
	var steps []api.Push
	for _, word := range strings.Fields(text) {
		steps = append(steps, push(word))
	}
	return steps
}

func push(word string) api.Push {
	if p, isOperator := operators()[word]; isOperator {
		return p
	}
	rest := word[1:]
	switch word[0] {
	case 's':
		return sca(number(rest))
	case 'a':
		v, n, _ := strings.Cut(rest, "+")
		return arr(number(v), int64(number(cmp.Or(n, "0"))))
	case 't':
		v, n, _ := strings.Cut(rest, ",")
		return at(number(v), int64(number(cmp.Or(n, "0"))))
	case 'k':
		return idx(int64(number(cmp.Or(rest, "0"))))
	}
	return num(int64(number(word)))
}

func num(n int64) api.Push { return api.Push{Op: api.PNum, N: n} }

func truth(n int64) api.Push { return api.Push{Op: api.PNum, K: 1, N: n} }

func sca(v int) api.Push { return api.Push{Op: api.PSca, V: v} }

func arr(v int, n int64) api.Push { return api.Push{Op: api.PArr, V: v, N: n} }

func idx(n int64) api.Push { return api.Push{Op: api.PIdx, N: n} }

func at(v int, n int64) api.Push { return api.Push{Op: api.PAt, V: v, N: n} }

func bin(k int) api.Push { return api.Push{Op: api.PBin, K: k} }

// Rules.

func each(out int, e string) api.Rule { return api.Rule{Op: api.QEach, Out: out, E: tree(e)} }

func foldE(k, out, n, first int, e string) api.Rule {
	return api.Rule{Op: api.QFoldE, K: k, Out: out, N: int64(n), A: []int{first}, E: tree(e)}
}

func scanE(k, out, first int, e string) api.Rule {
	return api.Rule{Op: api.QScanE, K: k, Out: out, A: []int{first}, E: tree(e)}
}

func cat(out, first, then int) api.Rule {
	return api.Rule{Op: api.QCat, Out: out, A: []int{first, then}}
}

func pre(out, first, then int) api.Rule {
	return api.Rule{Op: api.QPre, Out: out, A: []int{first, then}}
}

// Steps of loops.

func one(to int, e string) api.Loop { return api.Loop{Op: api.LOne, To: to, E: tree(e)} }

func all(to, n int, e string) api.Loop { return api.Loop{Op: api.LEach, N: n, To: to, E: tree(e)} }

func fold(k, to, n int, f, e string) api.Loop {
	return api.Loop{Op: api.LFold, K: k, N: n, To: to, F: tree(f), E: tree(e)}
}

func scan(k, to, n int, f, e string) api.Loop {
	return api.Loop{Op: api.LScan, K: k, N: n, To: to, F: tree(f), E: tree(e)}
}

// with is a system of those rules; what no rule makes is In, and nothing is Out.
func with(vars string, rules ...api.Rule) api.System {
	s := api.System{Vars: types(vars), Rules: rules}
	for v := range s.Vars {
		if !slices.ContainsFunc(rules, func(r api.Rule) bool { return r.Out == v }) {
			s.In = append(s.In, v)
		}
	}
	return s
}

// lying is a plan of so many cells; "1 9 > -1" are places of variables, and of what rules
// keep.
func lying(cells int, places string) api.Plan {
	first, then, _ := strings.Cut(places, ">")
	return api.Plan{At: ints(first), Keep: ints(then), Cells: cells}
}

// plain is a thing as a text in which nil and empty lists are the same.
func plain(thing any) string { return fmt.Sprintf("%v", thing) }

func wantSame(t *testing.T, what string, got, want any) {
	t.Helper()
	if got, want := plain(got), plain(want); got != want {
		t.Errorf("%s: %.900s, want %.900s", what, got, want)
	}
}

// made asks that there is no fault, and that loop.Check tells none of what is answered,
// if it has no more Put than there may be: where things that are given lie over one
// another, it may have.
func made(t *testing.T, what string, s api.System, p api.Plan) (api.Loops, []int) {
	t.Helper()
	l, bools, fault := Make(s, p)
	if fault != (api.Fault{}) {
		t.Errorf("%s: fault %v, want none: %.900s, %.300s", what, fault, plain(s), plain(p))
		return l, bools
	}
	if fault := loop.Check(l); fault.Code != 0 && len(l.Put) <= api.MaxCells {
		t.Errorf("%s: loop.Check: %v: %.900s", what, fault, plain(l))
	}
	return l, bools
}

// wantSteps asks for these steps, and behind them for that which says that a row has been
// run.
func wantSteps(t *testing.T, what string, s api.System, p api.Plan, steps ...api.Loop) {
	t.Helper()
	l, _ := made(t, what, s, p)
	wantSame(t, what, l.Steps, append(steps, one(0, "1")))
	holdAgainstSaid(t, what, s, p)
}

// wantLists asks for Put, Get and bools, which are read: "1 2 > 3 > 2".
func wantLists(t *testing.T, what string, s api.System, p api.Plan, text string) {
	t.Helper()
	l, bools := made(t, what, s, p)
	lists := strings.Split(text, ">")
	wantSame(t, what+": Put", l.Put, ints(lists[0]))
	wantSame(t, what+": Get", l.Get, ints(lists[1]))
	wantSame(t, what+": bools", bools, ints(lists[2]))
	wantSame(t, what+": Cells", l.Cells, p.Cells)
	holdAgainstSaid(t, what, s, p)
}

// wantFault asks for a fault, and for nothing beside it.
func wantFault(t *testing.T, what string, s api.System, p api.Plan, code, at int) {
	t.Helper()
	l, bools, fault := Make(s, p)
	isNothing := l.Cells == 0 && len(l.Put) == 0 && len(l.Get) == 0 && len(l.Steps) == 0 && len(bools) == 0
	if want := (api.Fault{Code: code, At: at}); fault != want || !isNothing {
		t.Errorf("%s: fault %v, want %v alone: %.300s, %.300s of %.900s, %.300s", what, fault, want, plain(l), plain(bools), plain(s), plain(p))
	}
}

// dice throws the same numbers in each run.
type dice uint64

func (d *dice) below(n int) int {
	*d = *d*6364136223846793005 + 1442695040888963407
	return int(uint64(*d) >> 33 % uint64(n))
}

func pick[T any](d *dice, list []T) T { return list[d.below(len(list))] }

func shuffle[T any](d *dice, list []T) {
	for i := range list {
		other := d.below(i + 1)
		list[i], list[other] = list[other], list[i]
	}
}
