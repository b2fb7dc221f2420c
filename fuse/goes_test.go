package fuse

import (
	"fmt"
	"slices"
	"testing"

	"loomwork/api"
)

// P11.2: an array's tree goes into a step PArr, and is moved by its N.
func TestIntoArr(t *testing.T) {
	tree := []api.Push{arr(0, 1), idx(3), add(), sca(1), bin(api.KMul), num(9), at(0)}
	movedBy := func(n int64) []api.Push {
		return []api.Push{arr(0, 1+n), idx(3 + n), add(), sca(1), bin(api.KMul), num(9), at(0)}
	}
	for n := range int64(3) {
		s := over("i9 i i8 i6", each(2, tree...), each(3, arr(2, n)))
		what := fmt.Sprint("N ", n)
		wantFused(t, what, s, each(3, movedBy(n)...))
		s.Rules[1] = each(3, num(7), arr(2, n), add(), idx(5), bin(api.KSub))
		wantFused(t, what+" in the middle", s, each(3, slices.Concat([]api.Push{num(7)}, movedBy(n), []api.Push{add(), idx(5), bin(api.KSub)})...))
		s.Rules[1] = each(3, arr(2, n), arr(0, 2), add())
		wantFused(t, what+" in front", s, each(3, append(movedBy(n), arr(0, 2), add())...))
		s.Rules[1] = scanE(api.KSub, 3, 1, arr(2, n))
		wantFused(t, what+" of QScanE", s, scanE(api.KSub, 3, 1, movedBy(n)...))
		s = over("i9 i i8 i", each(2, tree...), foldE(api.KMax, 3, 6, 1, idx(-2), arr(2, n), bin(api.KSub)))
		wantFused(t, what+" of QFoldE", s, foldE(api.KMax, 3, 6, 1, slices.Concat([]api.Push{idx(-2)}, movedBy(n), []api.Push{bin(api.KSub)})...))
		s = over("i9 i i8 i", each(2, tree...), each(3, arr(2, n)))
		wantFused(t, what+" of a scalar", s, each(3, movedBy(n)...))
	}
}

// P11.2: truths go as numbers do.
func TestTruthsGo(t *testing.T) {
	s := over("b4 b b3 b2", each(2, arr(0, 1), truth(1), bin(api.KXor)), each(3, sca(1), arr(2, 1), un(api.KNot), arr(0, 0), sel()))
	wantFused(t, "an array", s, each(3, sca(1), arr(0, 2), truth(1), bin(api.KXor), un(api.KNot), arr(0, 0), sel()))
	s = over("b4 b b b", each(2, arr(0, 1), truth(1), bin(api.KXor)), each(3, sca(1), sca(2), un(api.KNot), arr(0, 0), sel()))
	wantFused(t, "a scalar", s, each(3, sca(1), arr(0, 1), truth(1), bin(api.KXor), un(api.KNot), arr(0, 0), sel()))
}

// P11.2: only N of PArr and PIdx is moved; what else steps have stays.
func TestOnlyArrAndIdxMove(t *testing.T) {
	tree := []api.Push{
		{Op: api.PNum, V: 7, N: 1000000}, {Op: api.PSca, K: 4, V: 1, N: 5}, {Op: api.PBin, K: api.KSub, V: 3, N: 6},
		{Op: api.PIdx, K: 8, V: 9, N: -1000000}, {Op: api.PUn, K: api.KNeg, V: 2, N: 2}, {Op: api.PAt, K: 6, V: 0, N: 3},
		{Op: api.PNum, K: 1, V: 5, N: 1}, {Op: api.PArr, K: -1, V: 0, N: 0}, {Op: api.PNum, N: least}, {Op: api.PSel, K: 1, V: 1, N: 1}, add(),
	}
	want := slices.Clone(tree)
	want[3].N, want[7].N = -999998, 2
	s := over("i6 i i6 i4", each(2, tree...), api.Rule{Op: api.QEach, K: 3, Out: 3, N: 4, E: []api.Push{{Op: api.PArr, K: 77, V: 2, N: 2}, {Op: api.PUn, K: api.KNeg, V: 2, N: 9}}})
	wantFused(t, "by 2", s, api.Rule{Op: api.QEach, K: 3, Out: 3, N: 4, E: append(want, api.Push{Op: api.PUn, K: api.KNeg, V: 2, N: 9})})
}

// P11.2: a scalar's tree goes into a step PSca. That has no N: what lies there moves
// nothing.
func TestIntoSca(t *testing.T) {
	tree := []api.Push{arr(0, 2), idx(1000000), add(), num(3), at(0)}
	s := over("i4 i i", each(1, tree...), each(2, num(1), sca(1), bin(api.KSub)))
	want := each(2, num(1), arr(0, 2), idx(1000000), add(), num(3), at(0), bin(api.KSub))
	wantFused(t, "PSca", s, want)
	for _, n := range []int64{1, 2, -1, -2, greatest, least} {
		s.Rules[1].E[1].N = n
		wantFused(t, fmt.Sprint("PSca with N ", n), s, want)
	}
	s = over("i i i3 i3", each(1, api.Push{Op: api.PSca, N: 5}), each(3, api.Push{Op: api.PSca, V: 1, N: 2}, arr(2, 0), add()))
	wantFused(t, "PSca into an array", s, each(3, api.Push{Op: api.PSca, N: 5}, arr(2, 0), add()))
}

// P11.2: what is one of Out stays, however often it stands there.
func TestOutStays(t *testing.T) {
	s := over("i3 i3 i3 i3", each(1, arr(0, 0)), each(2, arr(1, 0), un(api.KNeg)), each(3, arr(2, 0)))
	wantFused(t, "the last", s, each(3, arr(0, 0), un(api.KNeg)))
	wantFused(t, "none", telling(s), each(3, arr(0, 0), un(api.KNeg)))
	wantFused(t, "one that stays", telling(s, 2, 2), each(2, arr(0, 0), un(api.KNeg)), each(3, arr(2, 0)))
	wantFused(t, "two that stay", telling(s, 2, 3), each(2, arr(0, 0), un(api.KNeg)), each(3, arr(2, 0)))
	wantFused(t, "the first", telling(s, 0, 3, 1), each(1, arr(0, 0)), each(3, arr(1, 0), un(api.KNeg)))
	wantStays(t, "all", telling(s, 3, 2, 1, 0))
}

// P11.2: what is used in two places stays.
func TestTwoPlacesStay(t *testing.T) {
	b := each(1, arr(0, 0), un(api.KNeg))
	wantStays(t, "two steps", over("i3 i3 i3", b, each(2, arr(1, 0), arr(1, 0), add())))
	wantStays(t, "two steps of other cells", over("i3 i3 i2", b, each(2, arr(1, 0), arr(1, 1), add())))
	wantStays(t, "two steps, in one QBin", over("i3 i3 i3", b, rule(api.QBin, api.KMul, 2, 1, 1)))
	wantStays(t, "a step, and a PAt", over("i3 i3 i3", b, each(2, idx(0), arr(1, 0), at(1))))
	wantStays(t, "two rules", telling(over("i3 i3 i3 i3", b, each(2, arr(1, 0)), each(3, arr(1, 0))), 2, 3))
	wantStays(t, "two rules, one of them needless", over("i3 i3 i3 i3", b, each(2, arr(1, 0)), each(3, arr(1, 0))))
	wantStays(t, "a rule's step, and another one's A", over("i3 i3 i3 i6", b, each(2, arr(1, 0)), rule(api.QCat, 0, 3, 0, 1)))
	wantStays(t, "a rule ahead, and one behind", telling(over("i3 i3 i3 i3", each(2, arr(1, 0)), b, each(3, arr(1, 0))), 3))
	wantStays(t, "itself, and one behind", over("i3 i3 i3", each(1, arr(1, 0), arr(0, 0), add()), each(2, arr(1, 0))))
	c := each(1, sca(0))
	wantStays(t, "A and a step of QFoldE", over("i i i", c, foldE(api.KAdd, 2, 4, 1, sca(1))))
	wantStays(t, "A and a step of QScanE", over("i i i3", c, scanE(api.KAdd, 2, 1, sca(1))))
	wantStays(t, "two steps of a scalar", over("i i i", c, each(2, sca(1), sca(1), add())))
}

// P11.2: what is used in A stays.
func TestInAStays(t *testing.T) {
	b, c := each(1, arr(0, 0)), each(1, sca(0))
	wantStays(t, "QCat's first", over("i3 i3 i6", b, rule(api.QCat, 0, 2, 1, 0)))
	wantStays(t, "QCat's second", over("i3 i3 i6", b, rule(api.QCat, 0, 2, 0, 1)))
	wantStays(t, "QCat's both", over("i3 i3 i6", b, rule(api.QCat, 0, 2, 1, 1)))
	wantStays(t, "QPre's first", over("i3 i3 i3", b, pre(2, 1, 0)))
	wantStays(t, "QPre's second", over("i3 i3 i3", b, pre(2, 0, 1)))
	wantStays(t, "QPre's first, a scalar", over("i i i", c, pre(2, 1, 0)))
	wantStays(t, "QPre's second, a scalar", over("i i i", c, pre(2, 2, 1)))
	wantStays(t, "QFoldE's", over("i i i", c, foldE(api.KAdd, 2, 3, 1, idx(0))))
	wantStays(t, "QScanE's", over("i i i3", c, scanE(api.KAdd, 2, 1, idx(0))))
	wantStays(t, "QFold's", over("i i i3 i", c, rule(api.QFold, api.KAdd, 3, 1, 2)))
	wantStays(t, "QScan's", over("i i i3 i3", c, rule(api.QScan, api.KAdd, 3, 1, 2)))
	wantFused(t, "QFold's array", over("i3 i3 i i", b, rule(api.QFold, api.KAdd, 3, 2, 1)), foldE(api.KAdd, 3, 3, 2, arr(0, 0)))
}

// P11.2: what is used in a PAt stays.
func TestInAtStays(t *testing.T) {
	b := each(1, arr(0, 0))
	wantStays(t, "of a scalar", over("i3 i3 i", b, each(2, num(1), num(2), at(1))))
	wantStays(t, "of an array", over("i3 i3 i3", b, each(2, idx(0), num(2), at(1))))
	wantStays(t, "of QFoldE", over("i3 i3 i i", b, foldE(api.KAdd, 3, 3, 2, idx(0), num(2), at(1))))
	wantStays(t, "of QIndex", over("i3 i3 i i i", b, rule(api.QIndex, 0, 4, 1, 2, 3)))
	s := over("i3 i i i", each(1, sca(2), un(api.KNeg)), rule(api.QIndex, 0, 3, 0, 1, 2))
	wantFused(t, "QIndex's place", s, each(3, sca(2), un(api.KNeg), sca(2), at(0)))
}

// P11.2: what is used by a rule ahead, by itself, or by none stays.
func TestAheadStays(t *testing.T) {
	b := each(1, arr(0, 0))
	wantStays(t, "ahead", over("i3 i3 i3", each(2, arr(1, 0)), b))
	wantStays(t, "ahead, a scalar", over("i i i", each(2, sca(1)), each(1, sca(0))))
	wantStays(t, "itself", telling(over("i3 i3", each(1, arr(1, 0))), 0))
	wantStays(t, "none", telling(over("i3 i3 i3", b, each(2, arr(0, 0))), 2))
	wantStays(t, "none at all", telling(over("i3 i3", b)))
	s := telling(over("i i i", each(1, sca(2), un(api.KNeg)), each(2, sca(1), num(1), add())), 0)
	wantFused(t, "a round", s, each(2, sca(2), un(api.KNeg), num(1), add()))
}

// P11.2: only a QEach goes.
func TestOthersStay(t *testing.T) {
	for i, r := range []api.Rule{pre(2, 0, 2), foldE(api.KAdd, 2, 3, 0, idx(0)), rule(api.QFold, api.KAdd, 2, 0, 1)} {
		wantStays(t, fmt.Sprint("scalar ", i), over("i i4 i i", r, each(3, sca(2), un(api.KNeg))))
	}
	for i, r := range []api.Rule{pre(2, 1, 1), scanE(api.KAdd, 2, 0, arr(1, 0)), rule(api.QScan, api.KAdd, 2, 0, 1), rule(api.QCat, 0, 2, 4, 4)} {
		wantStays(t, fmt.Sprint("array ", i), over("i i4 i4 i4 i2", r, each(3, arr(2, 0), un(api.KNeg))))
	}
}

// P11.2: steps of rules that have none, and V of steps that name no variable, are no
// uses.
func TestNoUses(t *testing.T) {
	b := each(1, arr(0, 0), un(api.KNeg))
	aPre, aCat := pre(3, 0, 0), rule(api.QCat, 0, 3, 0, 0)
	aPre.E, aCat.E = []api.Push{arr(1, 0)}, []api.Push{sca(1), at(1)}
	for what, r := range map[string]api.Rule{"3": aPre, "6": aCat} {
		s := over("i3 i3 i3 i"+what, b, r, each(2, arr(1, 0)))
		wantFused(t, "used once, beside "+what, s, r, each(2, arr(0, 0), un(api.KNeg)))
		wantStays(t, "used by none but "+what, over("i3 i3 i3 i"+what, b, r, each(2, arr(0, 0))))
	}
	steps := []api.Push{{Op: api.PNum, V: 1}, {Op: api.PIdx, V: 1}, {Op: api.PBin, K: api.KAdd, V: 1}, {Op: api.PUn, K: api.KNeg, V: 1}}
	choice := []api.Push{{Op: api.PNum, K: 1, V: 1}, {Op: api.PNum, V: 1}, {Op: api.PNum, V: 1}, {Op: api.PSel, V: 1}, add()}
	s := over("i3 i3 i3", b, each(2, slices.Concat(steps, choice, []api.Push{arr(1, 0), add()})...))
	wantFused(t, "V of others", s, each(2, slices.Concat(steps, choice, b.E, []api.Push{add()})...))
	wantStays(t, "V of others alone", over("i3 i3 i3", b, each(2, slices.Concat(steps, choice)...)))
	many := number(3, 1)
	many.E = []api.Push{sca(1), arr(1, 0)} // a field that the normal form does not have
	wantFused(t, "steps of a QNum", telling(over("i3 i3 i3 i", b, many, each(2, arr(1, 0))), 2, 3), each(3, num(1)), each(2, b.E...))
}

// long is a tree of so many steps, the first of which is that one.
func long(count int, first api.Push) []api.Push {
	steps := []api.Push{first}
	for len(steps)+1 < count {
		steps = append(steps, num(int64(len(steps))), add())
	}
	if len(steps) < count {
		steps = append(steps, un(api.KNeg))
	}
	return steps
}

// P11.2: the tree that comes has MaxTree steps, or one more.
func TestMaxTree(t *testing.T) {
	for own := 1; own <= api.MaxTree; own++ {
		most := api.MaxTree + 1 - own
		for _, count := range []int{most - 1, most, most + 1} {
			if count < 1 || count > api.MaxTree {
				continue
			}
			tree, into := long(own, arr(0, 0)), long(count, arr(1, 0))
			scalars, intoScalar := long(own, sca(0)), long(count, sca(1))
			systems := []api.System{
				over("i3 i3 i3", each(1, tree...), each(2, into...)),
				over("i3 i3 i", each(1, tree...), each(2, into...)),
				over("i3 i3 i3 i", each(1, tree...), scanE(api.KAdd, 2, 3, into...)),
				over("i3 i3 i i", each(1, tree...), foldE(api.KAdd, 2, 3, 3, into...)),
				over("i i i", each(1, scalars...), each(2, intoScalar...)),
			}
			for i, s := range systems {
				what := fmt.Sprint(own, " steps into ", count, ", system ", i)
				if count > most {
					wantStays(t, what, s)
					continue
				}
				want := s.Rules[1]
				want.E = slices.Concat(s.Rules[0].E, want.E[1:])
				wantFused(t, what, s, want)
			}
		}
	}
	wantSame(t, "how long they are", []int{len(long(1, num(0))), len(long(8, num(0))), len(long(23, num(0)))}, []int{1, 8, 23})
}

// P11.2: a PIdx that comes to 1000000, and to one more.
func TestMostOfIdx(t *testing.T) {
	for n := range int64(4) {
		for _, more := range []int64{-1, 0, 1, 2, 3} {
			own := 1000000 - n + more
			if own > 1000000 {
				continue
			}
			for i, tree := range [][]api.Push{{idx(own)}, {idx(0), idx(own), add()}, {idx(own), idx(0), add()}} {
				for _, r := range []api.Rule{each(3, arr(1, n)), each(2, arr(1, n)), foldE(api.KAdd, 3, 2, 0, arr(1, n)), scanE(api.KAdd, 2, 0, arr(1, n))} {
					s := telling(over("i i5 i2 i", each(1, tree...), r), r.Out)
					what := fmt.Sprint("PIdx ", own, " by ", n, ", tree ", i, ", Op ", r.Op)
					if more > 0 {
						wantStays(t, what, s)
						continue
					}
					want := r
					want.E = slices.Clone(tree)
					for at := range want.E {
						if want.E[at].Op == api.PIdx {
							want.E[at].N += n
						}
					}
					wantFused(t, what, s, want)
				}
			}
		}
	}
	s := over("i i5 i2", each(1, idx(-1000000), num(1000001), add()), each(2, idx(1000000), arr(1, 3), add()))
	wantFused(t, "others that are great", s, each(2, idx(1000000), idx(-999997), num(1000001), add(), add()))
	s = over("i i5 i5 i2", each(1, idx(999998)), each(2, arr(1, 0), num(1), add()), each(3, arr(2, 3), un(api.KNeg)))
	wantFused(t, "one that came by another tree", s, each(2, idx(999998), num(1), add()), each(3, arr(2, 3), un(api.KNeg)))
	s = over("i i5 i4 i2", each(1, idx(999998)), each(2, arr(1, 1), num(1), add()), each(3, arr(2, 1), un(api.KNeg)))
	wantFused(t, "one that comes by another tree", s, each(3, idx(1000000), num(1), add(), un(api.KNeg)))
}

// P11.2: which scalars' trees go into which rules.
func TestScalarsTrees(t *testing.T) {
	trees := []struct {
		steps   []api.Push
		isPlain bool
	}{
		{[]api.Push{num(5)}, true},
		{[]api.Push{num(least)}, true},
		{[]api.Push{sca(0)}, true},
		{[]api.Push{{Op: api.PSca, K: 6, N: -3}}, true},
		{[]api.Push{arr(1, 0)}, false},
		{[]api.Push{arr(1, 2)}, false},
		{[]api.Push{idx(0)}, false},
		{[]api.Push{idx(7)}, false},
		{[]api.Push{num(5), un(api.KNeg)}, false},
		{[]api.Push{sca(0), un(api.KNeg)}, false},
		{[]api.Push{num(1), num(2), add()}, false},
		{[]api.Push{sca(0), sca(0), bin(api.KMul)}, false},
		{[]api.Push{truth(1), num(1), num(2), sel()}, false},
		{[]api.Push{num(1), sca(0), at(1)}, false},
	}
	users := []struct {
		api.Rule
		isScalarEach bool
	}{
		{each(3, sca(2)), true},
		{each(3, num(4), sca(2), bin(api.KSub)), true},
		{each(4, sca(2)), false},
		{each(4, arr(1, 0), sca(2), bin(api.KSub)), false},
		{each(5, sca(2)), false},
		{foldE(api.KSub, 3, 2, 0, sca(2), idx(1), add()), false},
		{foldE(api.KSub, 3, 1, 0, sca(2)), false},
		{scanE(api.KSub, 4, 0, arr(1, 0), sca(2), bin(api.KMul)), false},
		{scanE(api.KSub, 5, 0, sca(2)), false},
	}
	for i, tree := range trees {
		for j, user := range users {
			s := over("i i3 i i i3 i1", each(2, tree.steps...), user.Rule)
			what := fmt.Sprint("tree ", i, " into rule ", j)
			if !tree.isPlain && !user.isScalarEach {
				wantStays(t, what, s)
				continue
			}
			want, step := user.Rule, slices.Index(user.E, sca(2))
			want.E = slices.Concat(user.E[:step], tree.steps, user.E[step+1:])
			wantFused(t, what, s, want)
		}
	}
}

// P11.2: truths that are scalars.
func TestScalarTruths(t *testing.T) {
	s := over("i3 b b i3", number(1, 1), rule(api.QUn, api.KNot, 2, 1), rule(api.QIf, 0, 3, 2, 0, 0))
	wantFused(t, "a truth of two steps", s, each(2, truth(1), un(api.KNot)), each(3, sca(2), arr(0, 0), arr(0, 0), sel()))
	s = over("i3 b i3", number(1, 1), rule(api.QIf, 0, 2, 1, 0, 0))
	wantFused(t, "a truth of one step", s, each(2, truth(1), arr(0, 0), arr(0, 0), sel()))
}

// P11.2: arrays' trees go into each rule that has a tree, whatever they are.
func TestArraysTrees(t *testing.T) {
	trees := [][]api.Push{{num(5)}, {sca(0)}, {arr(1, 0)}, {idx(2)}, {num(5), un(api.KNeg)}, {arr(1, 0), idx(1), add()}, {idx(0), num(9), at(1)}}
	for i, tree := range trees {
		for _, r := range []api.Rule{each(3, arr(2, 0)), each(4, arr(2, 0)), foldE(api.KSub, 3, 2, 0, arr(2, 0)), scanE(api.KSub, 4, 0, arr(2, 0))} {
			want := r
			want.E = tree
			wantFused(t, fmt.Sprint("tree ", i, " into Op ", r.Op), over("i i3 i3 i i3", each(2, tree...), r), want)
		}
	}
}
