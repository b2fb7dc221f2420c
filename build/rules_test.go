package build

import (
	"fmt"
	"testing"

	"loomwork/api"
)

// P15.1: a QEach of a scalar becomes an LOne.
func TestEachOfScalar(t *testing.T) {
	s := with("i i b", each(1, "s0 2 mul"))
	wantSteps(t, "a scalar", s, lying(9, "3 7 2 > -1"), one(7, "s3 2 mul"))
	wantSteps(t, "at the last cell", s, lying(9, "3 8 2 > -1"), one(8, "s3 2 mul"))
	wantSteps(t, "at the first cell", s, lying(9, "3 1 2 > -1"), one(1, "s3 2 mul"))
	wantSteps(t, "over what it is made of", s, lying(9, "3 3 2 > -1"), one(3, "s3 2 mul"))
	s = with("i3 b", each(1, "a0+1 a0+2 less"))
	wantSteps(t, "of cells", s, lying(9, "4 7 > -1"), one(7, "s5 s6 less"))
}

// P15.1: a QEach of an array becomes an LEach over its cells, be it one alone.
func TestEachOfArray(t *testing.T) {
	for _, n := range []int{1, 2, 3, 299, 300} {
		s := with(fmt.Sprintf("i%d i%d", n, n), each(1, "a0 a0 add"))
		p := api.Plan{At: []int{1, 1 + n}, Keep: []int{-1}, Cells: 1 + 2*n}
		wantSteps(t, fmt.Sprint("of ", n), s, p, api.Loop{Op: api.LEach, N: n, To: 1 + n, E: tree("a1 a1 add")})
		p.At = []int{1 + n, 1}
		want := all(1, n, "")
		want.E = []api.Push{arr(1+n, 0), arr(1+n, 0), bin(api.KAdd)}
		wantSteps(t, fmt.Sprint("of ", n, ", the other way round"), s, p, want)
	}
}

// P15.1: a QFoldE becomes an LFold over N, F being the cell of A[0].
func TestFold(t *testing.T) {
	for _, n := range []int{1, 2, 300} {
		s := with("i i300 i", foldE(api.KMax, 2, n, 0, "a1 s0 mul"))
		wantSteps(t, fmt.Sprint("over ", n), s, lying(400, "5 10 7 > -1"), fold(api.KMax, 7, n, "s5", "a10 s5 mul"))
		wantSteps(t, fmt.Sprint("over ", n, ", at its beginning"), s, lying(400, "5 10 5 > -1"), fold(api.KMax, 5, n, "s5", "a10 s5 mul"))
	}
	for _, k := range []int{api.KAnd, api.KOr, api.KXor} {
		s := with("b b3 b", foldE(k, 2, 3, 0, "a1"))
		wantSteps(t, fmt.Sprint("truths by ", k), s, lying(6, "1 2 5 > -1"), fold(k, 5, 3, "s1", "a2"))
	}
	for k := api.KAdd; k <= api.KMax; k++ {
		s := with("i i", foldE(k, 1, 3, 0, "k"))
		wantSteps(t, fmt.Sprint("numbers by ", k), s, lying(6, "1 2 > -1"), fold(k, 2, 3, "s1", "k"))
	}
}

// P15.1: a QScanE becomes an LScan over the cells that it makes, F being the cell of A[0].
func TestScan(t *testing.T) {
	for _, n := range []int{1, 2, 299, 300} {
		s := with(fmt.Sprint("i i300 i", n), scanE(api.KSub, 2, 0, "a1 s0 mul"))
		wantSteps(t, fmt.Sprint("over ", n), s, lying(800, "5 10 400 > -1"), scan(api.KSub, 400, n, "s5", "a10 s5 mul"))
		wantSteps(t, fmt.Sprint("over ", n, ", over the array"), s, lying(800, "5 10 10 > -1"), scan(api.KSub, 10, n, "s5", "a10 s5 mul"))
	}
	s := with("b b2 b2", scanE(api.KXor, 2, 0, "a1 not"))
	wantSteps(t, "truths", s, lying(6, "1 2 4 > -1"), scan(api.KXor, 4, 2, "s1", "a2 not"))
}

// P15.1: of a fold and of a scan E is as of an array, also over one cell: no PSca for a
// PArr, no PNum for a PIdx.
func TestFoldsOverOne(t *testing.T) {
	const e, over = "a1+2 k5 add 1 s0 t1 sub", "a5 k5 add 1 s1 t3,3 sub"
	s := with("i i3 i i1", foldE(api.KAdd, 2, 1, 0, e), scanE(api.KMul, 3, 0, e))
	wantSteps(t, "over one", s, lying(9, "1 3 7 8 > -1 -1"), fold(api.KAdd, 7, 1, "s1", over), scan(api.KMul, 8, 1, "s1", over))
}

// P15.1: a QCat becomes two LEach, to the first cells and to those behind.
func TestCat(t *testing.T) {
	for _, sizes := range [][2]int{{1, 1}, {1, 2}, {2, 1}, {3, 5}, {5, 3}, {1, 299}, {299, 1}, {150, 150}} {
		first, then := sizes[0], sizes[1]
		s := with(fmt.Sprintf("b%d b%d b%d", first, then, first+then), cat(2, 0, 1))
		wantSteps(t, fmt.Sprint("of ", sizes), s, lying(1000, "1 400 600 > -1"), all(600, first, "a1"), all(600+first, then, "a400"))
		s.Rules[0].A = []int{1, 0}
		wantSteps(t, fmt.Sprint("of ", sizes, ", the other first"), s, lying(1000, "1 400 600 > -1"), all(600, then, "a400"), all(600+then, first, "a1"))
	}
	s := with("i2 i4", cat(1, 0, 0))
	wantSteps(t, "of one with itself", s, lying(7, "1 3 > -1"), all(3, 2, "a1"), all(5, 2, "a1"))
}

// P15.1: a QPre chooses by the cell 0 between what it keeps and A[0]; behind all rules
// what it keeps becomes A[1].
func TestPre(t *testing.T) {
	s := with("i i i", pre(2, 0, 1))
	wantSteps(t, "a scalar", s, lying(9, "5 6 7 > 3"), one(7, "s0 s3 s5 sel"), one(3, "s6"))
	for _, n := range []int{1, 2, 299, 300} {
		s := with(fmt.Sprintf("b%d b%d b%d", n, n, n), pre(2, 0, 1))
		wantSteps(t, fmt.Sprint("of ", n), s, lying(2000, "500 900 1300 > 100"),
			all(1300, n, "s0 a100 a500 sel"), all(100, n, "a900"))
	}
}

// P15.1: several QPre: first all rules, then what they keep, in their order, at last the
// cell 0.
func TestManyPre(t *testing.T) {
	s := with("i i3 i i3 i i3 i",
		pre(2, 0, 6), each(3, "s2 k add"), pre(4, 2, 2), pre(5, 3, 1), foldE(api.KAdd, 6, 3, 4, "a5"))
	p := lying(40, "1 2 5 6 10 20 30 > 33 -1 34 35 -1")
	wantSteps(t, "several", s, p,
		one(5, "s0 s33 s1 sel"), all(6, 3, "s5 k add"), one(10, "s0 s34 s5 sel"), all(20, 3, "s0 a35 a6 sel"),
		fold(api.KAdd, 30, 3, "s10", "a20"),
		one(33, "s30"), one(34, "s5"), all(35, 3, "a2"))
	p.Keep = ints("38 -1 37 34 -1")
	wantSteps(t, "kept in another order", s, p,
		one(5, "s0 s38 s1 sel"), all(6, 3, "s5 k add"), one(10, "s0 s37 s5 sel"), all(20, 3, "s0 a34 a6 sel"),
		fold(api.KAdd, 30, 3, "s10", "a20"),
		one(38, "s30"), one(37, "s5"), all(34, 3, "a2"))
}

// P15.1: a QPre whose A and Out are the same variables, or are In.
func TestPreOfSame(t *testing.T) {
	p := lying(9, "4 5 6 > 2")
	wantSteps(t, "A[0] and A[1] are one, In", with("i i i", pre(2, 0, 0)), p, one(6, "s0 s2 s4 sel"), one(2, "s4"))
	wantSteps(t, "A[1] is Out", with("i i i", pre(2, 0, 2)), p, one(6, "s0 s2 s4 sel"), one(2, "s6"))
	wantSteps(t, "both are In", with("i i i", pre(2, 1, 0)), p, one(6, "s0 s2 s5 sel"), one(2, "s4"))
	wantFault(t, "A[0] is Out", with("i i i", pre(2, 2, 0)), p, api.ErrRound, -1)
	wantFault(t, "all are one", with("i i i", pre(2, 2, 2)), p, api.ErrRound, -1)
	s := with("i i i", pre(2, 0, 1))
	s.In = upTo(0, 3)
	wantFault(t, "Out is In", s, p, api.ErrTwice, 0)
	s.Rules[0] = pre(1, 1, 1)
	wantFault(t, "all are one that is In", s, p, api.ErrTwice, 0)
	s = with("i i i", pre(1, 0, 2), pre(2, 0, 1))
	wantSteps(t, "two of one another", s, lying(9, "4 5 6 > 2 3"), one(5, "s0 s2 s4 sel"), one(6, "s0 s3 s4 sel"), one(2, "s6"), one(3, "s5"))
	s = with("i i i", pre(1, 0, 0), pre(2, 1, 1))
	wantSteps(t, "one behind the other", s, lying(9, "4 5 6 > 2 3"), one(5, "s0 s2 s4 sel"), one(6, "s0 s3 s5 sel"), one(2, "s4"), one(3, "s5"))
}

// P15.1: rules in their order, one step behind the other.
func TestInOrder(t *testing.T) {
	s := with("i i2 i3 i i3 i5 i",
		scanE(api.KAdd, 4, 0, "a2"), cat(5, 1, 4), foldE(api.KMin, 3, 5, 0, "a5"), each(6, "s3 neg"))
	wantSteps(t, "of each kind", s, lying(17, "1 2 4 7 8 11 16 > -1 -1 -1 -1"),
		scan(api.KAdd, 8, 3, "s1", "a4"), all(11, 2, "a2"), all(13, 3, "a8"), fold(api.KMin, 7, 5, "s1", "a11"), one(16, "s7 neg"))
	s = with("i i i i", each(3, "1"), each(1, "s3"), each(2, "s1"))
	wantSteps(t, "not by variables", s, lying(5, "1 2 3 4 > -1 -1 -1"), one(4, "1"), one(2, "s4"), one(3, "s2"))
}

// otherForms are right rules that make the variable 0 or 1 of the others, and are not in
// their normal form.
func otherForms() (s api.System, rules []api.Rule) {
	s = with("i i3 i i i3 b i2 i i")
	s.In = upTo(2, 7)
	add := func(op, k, out int, n int64, a ...int) {
		rules = append(rules, api.Rule{Op: op, K: k, Out: out, N: n, A: a})
	}
	add(api.QNum, 0, 0, 5)
	add(api.QCopy, 0, 0, 0, 2)
	add(api.QCopy, 0, 1, 0, 4)
	add(api.QUn, api.KNeg, 0, 0, 2)
	add(api.QBin, api.KAdd, 1, 0, 4, 4)
	add(api.QIf, 0, 0, 0, 5, 2, 3)
	add(api.QFold, api.KMul, 0, 0, 2, 4)
	add(api.QScan, api.KMul, 1, 0, 2, 4)
	add(api.QFill, 0, 1, 0, 2)
	add(api.QIndex, 0, 0, 0, 4, 2, 3)
	add(api.QWith, 0, 1, 0, 4, 2, 3)
	add(api.QSlice, 0, 1, 0, 4)
	return s, rules
}

// P15.1: ErrForm at the number of a rule that is not in its normal form, of each other Op,
// and of several at that of the first one.
func TestOtherForm(t *testing.T) {
	s, rules := otherForms()
	p := lying(40, "1 2 5 6 7 10 11 20 21 > -1 -1 -1")
	seen := map[int]bool{}
	for _, r := range rules {
		seen[r.Op] = true
		what := fmt.Sprint("Op ", r.Op)
		s.Rules = []api.Rule{r, each(7, "1"), each(8, "1")}
		wantFault(t, what+" first", s, p, api.ErrForm, 0)
		s.Rules = []api.Rule{each(7, "1"), r, each(8, "1")}
		wantFault(t, what+" in the middle", s, p, api.ErrForm, 1)
		s.Rules = []api.Rule{each(7, "1"), each(8, "1"), r}
		wantFault(t, what+" last", s, p, api.ErrForm, 2)
		s.Rules = []api.Rule{each(7, "1"), r, {Op: api.QNum, Out: 8}}
		wantFault(t, what+" and one behind", s, p, api.ErrForm, 1)
		s.Rules = []api.Rule{{Op: api.QNum, Out: 7}, r, each(8, "1")}
		wantFault(t, what+" and one ahead", s, p, api.ErrForm, 0)
	}
	if len(seen) != 11 {
		t.Errorf("%d Ops", len(seen))
	}
}

// P15.1: the others are in their normal form, whatever lies in fields that they do not
// have, which the steps do not get.
func TestFieldsOfRules(t *testing.T) {
	strange := func(r api.Rule) api.Rule {
		if r.Op == api.QEach || r.Op == api.QCat || r.Op == api.QPre {
			r.K = -5
		}
		if r.Op != api.QFoldE {
			r.N = 77
		}
		if r.Op == api.QCat || r.Op == api.QPre {
			r.E = tree("s99 a-1 sel")
		}
		return r
	}
	s := with("i i2 i i2 i i2 i4 i i2", each(2, "s0"), each(3, "a1"), foldE(api.KAdd, 4, 2, 0, "a1"),
		scanE(api.KAdd, 5, 0, "a1"), cat(6, 1, 3), pre(7, 0, 0), pre(8, 1, 1))
	for i, r := range s.Rules {
		s.Rules[i] = strange(r)
	}
	wantSteps(t, "fields", s, lying(40, "1 2 4 5 7 8 10 14 15 > -1 -1 -1 -1 -1 20 21"),
		one(4, "s1"), all(5, 2, "a2"), fold(api.KAdd, 7, 2, "s1", "a2"), scan(api.KAdd, 8, 2, "s1", "a2"),
		all(10, 2, "a2"), all(12, 2, "a5"), one(14, "s0 s20 s1 sel"), all(15, 2, "s0 a21 a2 sel"),
		one(20, "s1"), all(21, 2, "a2"))
}
