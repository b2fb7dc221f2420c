package fuse

import (
	"fmt"
	"slices"
	"testing"

	"loomwork/api"
	"loomwork/kinds"
	"loomwork/order"
)

// The variables that the rules of formCases are of; what they make stands behind.
const (
	n0 = iota
	n1
	b0
	b1
	ns0 // three numbers
	ns1
	bs0 // three truths
	bs1
	n2s // two numbers
	b2s
	n1s // an array of one number
	made
)

const formTypes = "i i b b i3 i3 b3 b3 i2 b2 i1 "

// formCase: the rule makes a variable of that type.
type formCase struct {
	makes string
	api.Rule
	want api.Rule
}

func (c formCase) system() api.System { return over(formTypes+c.makes, order.Own(c.Rule)) }

// changing has a rule of each Op that another stands for in the normal form, of
// scalars and of arrays, of numbers and of truths.
func changing() []formCase {
	return []formCase{
		{"i", number(made, 5), each(made, num(5))},
		{"i", number(made, 0), each(made, num(0))},
		{"i", number(made, least), each(made, num(least))},
		{"i", number(made, greatest), each(made, num(greatest))},
		{"b", number(made, 0), each(made, truth(0))},
		{"b", number(made, 1), each(made, truth(1))},
		{"i", rule(api.QCopy, 0, made, n1), each(made, sca(n1))},
		{"b", rule(api.QCopy, 0, made, b0), each(made, sca(b0))},
		{"i3", rule(api.QCopy, 0, made, ns1), each(made, arr(ns1, 0))},
		{"b3", rule(api.QCopy, 0, made, bs0), each(made, arr(bs0, 0))},
		{"i1", rule(api.QCopy, 0, made, n1s), each(made, arr(n1s, 0))},
		{"i3", rule(api.QFill, 0, made, n1), each(made, sca(n1))},
		{"b300", rule(api.QFill, 0, made, b1), each(made, sca(b1))},
		{"i1", rule(api.QFill, 0, made, n0), each(made, sca(n0))},
		{"i", rule(api.QUn, api.KNeg, made, n1), each(made, sca(n1), un(api.KNeg))},
		{"b", rule(api.QUn, api.KNot, made, b1), each(made, sca(b1), un(api.KNot))},
		{"i3", rule(api.QUn, api.KNeg, made, ns1), each(made, arr(ns1, 0), un(api.KNeg))},
		{"b2", rule(api.QUn, api.KNot, made, b2s), each(made, arr(b2s, 0), un(api.KNot))},
		{"i", rule(api.QBin, api.KSub, made, n1, n0), each(made, sca(n1), sca(n0), bin(api.KSub))},
		{"i1", rule(api.QBin, api.KSub, made, n1s, n1s), each(made, arr(n1s, 0), arr(n1s, 0), bin(api.KSub))},
		{"i", rule(api.QIf, 0, made, b1, n1, n0), each(made, sca(b1), sca(n1), sca(n0), sel())},
		{"b", rule(api.QIf, 0, made, b1, b1, b0), each(made, sca(b1), sca(b1), sca(b0), sel())},
		{"i3", rule(api.QIf, 0, made, b0, ns1, ns0), each(made, sca(b0), arr(ns1, 0), arr(ns0, 0), sel())},
		{"b3", rule(api.QIf, 0, made, b0, bs0, bs1), each(made, sca(b0), arr(bs0, 0), arr(bs1, 0), sel())},
		{"i", rule(api.QIndex, 0, made, ns1, n0, n1), each(made, sca(n0), sca(n1), at(ns1))},
		{"b", rule(api.QIndex, 0, made, b2s, n1, b0), each(made, sca(n1), sca(b0), at(b2s))},
		{"i3", rule(api.QWith, 0, made, ns1, n0, n1), each(made, idx(0), sca(n0), bin(api.KEq), sca(n1), arr(ns1, 0), sel())},
		{"b2", rule(api.QWith, 0, made, b2s, n1, b1), each(made, idx(0), sca(n1), bin(api.KEq), sca(b1), arr(b2s, 0), sel())},
		{"i2", slice(made, ns1, 1), each(made, arr(ns1, 1))},
		{"i2", slice(made, ns1, 0), each(made, arr(ns1, 0))},
		{"i3", slice(made, ns0, 0), each(made, arr(ns0, 0))},
		{"b1", slice(made, bs1, 2), each(made, arr(bs1, 2))},
		{"i", rule(api.QFold, api.KMax, made, n1, ns1), foldE(api.KMax, made, 3, n1, arr(ns1, 0))},
		{"i", rule(api.QFold, api.KSub, made, n0, n1s), foldE(api.KSub, made, 1, n0, arr(n1s, 0))},
		{"b", rule(api.QFold, api.KXor, made, b1, b2s), foldE(api.KXor, made, 2, b1, arr(b2s, 0))},
		{"i2", rule(api.QScan, api.KMod, made, n1, n2s), scanE(api.KMod, made, n1, arr(n2s, 0))},
		{"b3", rule(api.QScan, api.KOr, made, b0, bs0), scanE(api.KOr, made, b0, arr(bs0, 0))},
	}
}

// staying has rules of the five Ops that stay, with something in all their fields.
func staying() []formCase {
	junk := []api.Push{sca(made), {Op: greatest, K: -1, V: least, N: 8}, arr(-4, 77), at(99)}
	steps := []api.Push{{Op: api.PSca, K: 3, V: n1, N: 9}, {Op: api.PArr, K: -3, V: ns0}, {Op: api.PBin, K: api.KSub, V: -1, N: 4}}
	truths := []api.Push{{Op: api.PNum, K: 1, V: 88}, {Op: api.PUn, K: api.KNot, V: -7, N: least}}
	all := []formCase{
		{"i5", api.Rule{Op: api.QCat, K: 7, Out: made, N: -9, A: []int{ns1, n2s}, E: junk}, api.Rule{}},
		{"b5", api.Rule{Op: api.QCat, K: least, Out: made, N: 1, A: []int{b2s, bs1}}, api.Rule{}},
		{"i", api.Rule{Op: api.QPre, K: greatest, Out: made, N: greatest, A: []int{n0, made}, E: junk}, api.Rule{}},
		{"b3", api.Rule{Op: api.QPre, Out: made, N: 3, A: []int{bs0, bs1}, E: junk[1:]}, api.Rule{}},
		{"i3", api.Rule{Op: api.QEach, K: 5, Out: made, N: 6, E: steps}, api.Rule{}},
		{"b", api.Rule{Op: api.QEach, K: -5, Out: made, N: least, E: truths}, api.Rule{}},
		{"i", api.Rule{Op: api.QFoldE, K: api.KMul, Out: made, N: 2, A: []int{n1}, E: steps}, api.Rule{}},
		{"b", api.Rule{Op: api.QFoldE, K: api.KAnd, Out: made, N: 300, A: []int{b1}, E: truths}, api.Rule{}},
		{"i2", api.Rule{Op: api.QScanE, K: api.KMin, Out: made, N: -8, A: []int{n0}, E: steps}, api.Rule{}},
		{"b300", api.Rule{Op: api.QScanE, K: api.KXor, Out: made, N: 400, A: []int{b0}, E: truths}, api.Rule{}},
	}
	for i, c := range all {
		all[i].Rule, all[i].want = order.Own(c.Rule), order.Own(c.Rule)
	}
	return all
}

// P11.1: the normal form of each Op, all its fields; of one rule Fuse answers the
// same.
func TestNorm(t *testing.T) {
	seen := map[int]int{}
	for i, c := range append(changing(), staying()...) {
		what := fmt.Sprint("case ", i, " of Op ", c.Op)
		wantNorm(t, what, c.system(), c.want)
		wantFused(t, what, c.system(), c.want)
		seen[c.Op]++
	}
	for op := api.QNum; op <= api.QScanE; op++ {
		if seen[op] < 2 {
			t.Errorf("the Op %d was seen %d times", op, seen[op])
		}
	}
}

// P11.1: every operator, of scalars and of arrays.
func TestNormOfOperators(t *testing.T) {
	for k := api.KAdd; k <= api.KNot; k++ {
		takes, makes, n := kinds.Op(k)
		scalars, arrays := []int{n1, n0}[:n], []int{ns0, ns1}[:n]
		op, step := api.QUn, un(k)
		if n == 2 {
			op, step = api.QBin, bin(k)
		}
		if takes == 'b' {
			scalars, arrays = []int{b1, b0}[:n], []int{bs0, bs1}[:n]
		}
		var ofScalars, ofArrays []api.Push
		for i := range n {
			ofScalars, ofArrays = append(ofScalars, sca(scalars[i])), append(ofArrays, arr(arrays[i], 0))
		}
		what := fmt.Sprint("K ", k)
		wantNorm(t, what, over(formTypes+string(makes), rule(op, k, made, scalars...)), each(made, append(ofScalars, step)...))
		wantNorm(t, what, over(formTypes+string(makes)+"3", rule(op, k, made, arrays...)), each(made, append(ofArrays, step)...))
	}
}

// hasK and hasN tell whether rules of an Op have that field.
func hasK(op int) bool {
	return slices.Contains([]int{api.QUn, api.QBin, api.QFold, api.QScan, api.QFoldE, api.QScanE}, op)
}

func hasN(op int) bool { return slices.Contains([]int{api.QNum, api.QSlice, api.QFoldE}, op) }

// P11.1: fields that a rule does not have come out zero.
func TestNormOfOtherFields(t *testing.T) {
	for i, c := range changing() {
		for _, n := range []int{1, -1, 300, greatest, least} {
			s := c.system()
			r := &s.Rules[0]
			if !hasK(r.Op) {
				r.K = n
			}
			if !hasN(r.Op) {
				r.N = int64(n)
			}
			r.E = slices.Repeat([]api.Push{sca(made), arr(n, 1), at(n0), {Op: n, K: n, V: n, N: int64(n)}}, 20)
			wantNorm(t, fmt.Sprint("case ", i, " with ", n), s, c.want)
		}
	}
}

// P11.1: each rule is in its place, whatever stands beside it; variables, In and Out
// stay.
func TestNormInPlace(t *testing.T) {
	d := dice(3)
	cases := append(changing(), staying()...)
	for range 40 {
		shuffle(&d, cases)
		s := over(formTypes)
		var want []api.Rule
		for _, c := range cases {
			out := len(s.Vars)
			s.Vars = append(s.Vars, types(c.makes)...)
			s.Rules = append(s.Rules, renamedMade(c.Rule, out))
			want = append(want, renamedMade(c.want, out))
			s.Out = append(s.Out, out, d.below(out+1))
		}
		shuffle(&d, s.In)
		wantNorm(t, "all at once", s, want...)
	}
}

// renamedMade is a rule that makes another variable.
func renamedMade(r api.Rule, out int) api.Rule {
	r = order.Own(r)
	r.Out = out
	for i, v := range r.A {
		if v == made {
			r.A[i] = out
		}
	}
	return r
}

// P11.1: no rules, no variables.
func TestNormOfNothing(t *testing.T) {
	wantNorm(t, "nothing", api.System{})
	wantFused(t, "nothing", api.System{})
	s := api.System{Vars: types("i b3 i"), In: []int{2, 0}, Out: []int{0, 0, 2}}
	wantNorm(t, "no rules", s)
	wantFused(t, "no rules", s)
}
