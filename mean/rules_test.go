package mean

import (
	"fmt"
	"testing"

	"loomwork/api"
	"loomwork/kinds"
	"loomwork/sys"
)

// P9.1: QNum, of numbers and of truths.
func TestNum(t *testing.T) {
	for _, n := range someNumbers() {
		wantRows(t, "a number", over("> i", number(0, n)), fmt.Sprint("> ", n), fmt.Sprint("> ", n))
	}
	wantRows(t, "truths", over("> b b", number(0, 1), number(1, 0)), "> 1 0", "> 1 0")
}

// P9.1: QCopy.
func TestCopy(t *testing.T) {
	wantRows(t, "a number", over("i > i", rule(api.QCopy, 0, 1, 0)), "7 > 7", "- > -", "+ > +", "0 > 0")
	wantRows(t, "a truth", over("b > b", rule(api.QCopy, 0, 1, 0)), "1 > 1", "0 > 0")
	wantRows(t, "of one cell", over("i1 > i1", rule(api.QCopy, 0, 1, 0)), "7 > 7")
	wantRows(t, "numbers", over("i3 > i3", rule(api.QCopy, 0, 1, 0)), "7 8 9 > 7 8 9", "- + 0 > - + 0")
	wantRows(t, "truths", over("b4 > b4", rule(api.QCopy, 0, 1, 0)), "1 0 0 1 > 1 0 0 1")
	wantRows(t, "one of several", over("i2 b i2 > i2", rule(api.QCopy, 0, 3, 2)), "1 2 0 3 4 > 3 4")
}

// P9.1: QUn with each operator of one, of scalars and of arrays.
func TestUn(t *testing.T) {
	neg, not := rule(api.QUn, api.KNeg, 1, 0), rule(api.QUn, api.KNot, 1, 0)
	wantRows(t, "KNeg", over("i > i", neg), "5 > -5", "-5 > 5", "0 > 0", "- > -", "+ > -9223372036854775807")
	wantRows(t, "KNeg of an array", over("i3 > i3", neg), "5 -6 0 > -5 6 0")
	wantRows(t, "KNeg of one cell", over("i1 > i1", neg), "5 > -5")
	wantRows(t, "KNot", over("b > b", not), "0 > 1", "1 > 0")
	wantRows(t, "KNot of an array", over("b3 > b3", not), "1 0 1 > 0 1 0")
}

// P9.1: QBin with each operator of two, of scalars and of arrays.
func TestBin(t *testing.T) {
	ofNumbers := map[int]string{api.KAdd: "5 -5 - 9 12", api.KSub: "9 -9 9223372036854775806 -5 -2", api.KMul: "-14 -14 + 14 35",
		api.KDiv: "-3 -3 + 0 0", api.KMod: "1 -1 0 2 5", api.KMin: "-2 -7 1 2 5", api.KMax: "7 2 + 7 7", api.KLess: "0 1 0 1 1", api.KEq: "0 0 0 0 0"}
	for k, want := range ofNumbers {
		_, makes, _ := kinds.Op(k)
		r := rule(api.QBin, k, 2, 0, 1)
		wantRows(t, fmt.Sprint("of numbers ", k), over(fmt.Sprintf("i5 i5 > %c5", makes), r), "7 -7 + 2 5 -2 2 1 7 7 > "+want)
		a, b, made := cells("7 -7 + 2 5"), cells("-2 2 1 7 7"), cells(want)
		m := begun(t, over(fmt.Sprintf("i i > %c", makes), r))
		for i := range a {
			wantTold(t, fmt.Sprint("of two numbers ", k), m, []int64{a[i], b[i]}, made[i:i+1])
		}
	}
	ofTruths := map[int]string{api.KAnd: "0 0 0 1", api.KOr: "0 1 1 1", api.KXor: "0 1 1 0"}
	for k, want := range ofTruths {
		r := rule(api.QBin, k, 2, 0, 1)
		wantRows(t, fmt.Sprint("of truths ", k), over("b4 b4 > b4", r), "0 0 1 1 0 1 0 1 > "+want)
		w := cells(want)
		wantRows(t, fmt.Sprint("of two truths ", k), over("b b > b", r), fmt.Sprint("0 0 > ", w[0]), fmt.Sprint("0 1 > ", w[1]), fmt.Sprint("1 0 > ", w[2]), fmt.Sprint("1 1 > ", w[3]))
	}
	wantRows(t, "by 0", over("i2 i2 > i2 i2", rule(api.QBin, api.KDiv, 2, 0, 1), rule(api.QBin, api.KMod, 3, 0, 1)), "7 - 0 -1 > 0 - 0 0")
	wantRows(t, "of itself", over("i2 > i2", rule(api.QBin, api.KMul, 1, 0, 0)), "3 -4 > 9 16")
}

// P9.1: each operator cell by cell of arrays of several sizes, and of scalars, of
// many numbers.
func TestOperators(t *testing.T) {
	d := dice(3)
	for k := api.KAdd; k <= api.KNot; k++ {
		takes, makes, count := kinds.Op(k)
		for _, n := range []int{0, 1, 2, 3, 7, 299, 300} {
			v := api.Var{Elem: takes, N: n}
			s := api.System{Vars: []api.Var{v, v, {Elem: makes, N: n}}, In: []int{0, 1}, Out: []int{2}, Rules: []api.Rule{rule(api.QUn+count-1, k, 2, upTo(0, count)...)}}
			m := begun(t, s)
			for range 20 {
				a, b := thrownCells(&d, v), thrownCells(&d, v)
				var want []int64
				for i := range a {
					want = append(want, sys.Apply(k, a[i], b[i]))
				}
				wantTold(t, fmt.Sprint("operator ", k, " of ", n), m, append(a, b...), want)
			}
		}
	}
}

// P9.1: QIf.
func TestIf(t *testing.T) {
	r := rule(api.QIf, 0, 3, 0, 1, 2)
	wantRows(t, "numbers", over("b i i > i", r), "1 5 6 > 5", "0 5 6 > 6")
	wantRows(t, "truths", over("b b b > b", r), "1 1 0 > 1", "0 1 0 > 0", "1 0 1 > 0", "0 0 1 > 1")
	wantRows(t, "arrays", over("b i3 i3 > i3", r), "1 5 6 7 8 9 10 > 5 6 7", "0 5 6 7 8 9 10 > 8 9 10")
	wantRows(t, "arrays of truths", over("b b2 b2 > b2", r), "1 1 0 0 1 > 1 0", "0 1 0 0 1 > 0 1")
	wantRows(t, "of one cell", over("b i1 i1 > i1", r), "1 5 6 > 5", "0 5 6 > 6")
}

// P9.1: QFold and QScan with each operator that folds, from A[0] on, rising.
func TestFoldAndScan(t *testing.T) {
	ofNumbers := map[int]string{api.KAdd: "110 113 106", api.KSub: "90 87 94", api.KMul: "1000 3000 -21000",
		api.KDiv: "10 3 0", api.KMod: "0 0 0", api.KMin: "10 3 -7", api.KMax: "100 100 100"}
	for k, want := range ofNumbers {
		made := cells(want)
		s := over("i i3 > i i3", rule(api.QFold, k, 2, 0, 1), rule(api.QScan, k, 3, 0, 1))
		wantRows(t, fmt.Sprint("of numbers ", k), s, fmt.Sprint("100 10 3 -7 > ", made[2], " ", want))
	}
	ofTruths := map[int]string{api.KAnd: "1 0 0 0", api.KOr: "1 1 1 1", api.KXor: "0 0 1 1"}
	for k, want := range ofTruths {
		made := cells(want)
		s := over("b b4 > b b4", rule(api.QFold, k, 2, 0, 1), rule(api.QScan, k, 3, 0, 1))
		wantRows(t, fmt.Sprint("of truths ", k), s, fmt.Sprint("1 1 0 1 0 > ", made[3], " ", want))
	}
	s := over("i i1 > i i1", rule(api.QFold, api.KSub, 2, 0, 1), rule(api.QScan, api.KSub, 3, 0, 1))
	wantRows(t, "over one cell", s, "5 7 > -2 -2", "- 1 > + +")
	s = over("i i4 > i", rule(api.QFold, api.KSub, 2, 0, 1))
	wantRows(t, "what a row ahead folded is gone", s, "0 1 2 3 4 > -10", "0 1 2 3 4 > -10")
	s = over("i i4 > i4", rule(api.QScan, api.KAdd, 2, 0, 1))
	wantRows(t, "what a row ahead scanned is gone", s, "0 1 2 3 4 > 1 3 6 10", "1 1 2 3 4 > 2 4 7 11")
}

// P9.1: QFill.
func TestFill(t *testing.T) {
	r := rule(api.QFill, 0, 1, 0)
	wantRows(t, "of one cell", over("i > i1", r), "7 > 7")
	wantRows(t, "numbers", over("i > i4", r), "7 > 7 7 7 7", "- > - - - -")
	wantRows(t, "truths", over("b > b2", r), "1 > 1 1", "0 > 0 0")
}

// outside are places that an array of so many cells does not have.
func outside(n int) []int64 {
	far := int64(n)
	return []int64{-1, -2, -far, far, far + 1, 1 << 31, 1 << 32, 1<<32 + 1, -1 << 32, 1 - 1<<32, 1 << 62, greatest, greatest - 1, least, least + 1}
}

// P9.1: QIndex and QWith, with a number below 0, within and beyond.
func TestIndexAndWith(t *testing.T) {
	for _, n := range []int{1, 2, 3, 300} {
		s := over(fmt.Sprintf("i%d i i > i i%d", n, n), rule(api.QIndex, 0, 3, 0, 1, 2), rule(api.QWith, 0, 4, 0, 1, 2))
		m := begun(t, s)
		var array []int64
		for k := range n {
			array = append(array, int64(100+k))
		}
		for k := range n {
			want := append([]int64{array[k]}, array...)
			want[1+k] = -9
			wantTold(t, "within", m, append(array[:n:n], int64(k), -9), want)
		}
		for _, place := range outside(n) {
			wantTold(t, "outside", m, append(array[:n:n], place, -9), append([]int64{-9}, array...))
		}
	}
	s := over("b3 i b > b b3", rule(api.QIndex, 0, 3, 0, 1, 2), rule(api.QWith, 0, 4, 0, 1, 2))
	wantRows(t, "truths", s, "0 1 0 1 0 > 1 0 0 0", "0 1 0 2 1 > 0 0 1 1", "0 1 0 3 1 > 1 0 1 0", "0 1 0 -1 1 > 1 0 1 0")
	s = over("i2 > i2 i2", rule(api.QWith, 0, 1, 0, 3, 3), rule(api.QWith, 0, 2, 1, 4, 4))
	s.Vars = append(s.Vars, types("i i")...)
	s.Rules = append(s.Rules, number(3, 1), number(4, 0))
	wantRows(t, "one of another", s, "7 8 > 7 1 0 1", "7 8 > 7 1 0 1")
}

// P9.1: what QWith makes is another array: that which it was made of stays.
func TestWithLeavesAlone(t *testing.T) {
	s := over("i3 i i > i3 i3", rule(api.QWith, 0, 3, 0, 1, 2), rule(api.QCopy, 0, 4, 0))
	s.Out = []int{3, 0, 4}
	wantRows(t, "with", s, "1 2 3 1 9 > 1 9 3 1 2 3 1 2 3")
	s = over("i i i > i3 i3 i", rule(api.QFill, 0, 3, 0), rule(api.QWith, 0, 4, 3, 1, 2), rule(api.QFold, api.KAdd, 5, 2, 3))
	wantRows(t, "fill", s, "4 2 9 > 4 4 4 4 4 9 21", "4 0 9 > 4 4 4 9 4 4 21")
}

// P9.1: QSlice: k + N.
func TestSlice(t *testing.T) {
	for from, want := range []string{"10 11 12", "11 12 13", "12 13 14"} {
		r := rule(api.QSlice, 0, 1, 0)
		r.N = int64(from)
		wantRows(t, fmt.Sprint("from ", from), over("i5 > i3", r), "10 11 12 13 14 > "+want)
	}
	last := rule(api.QSlice, 0, 1, 0)
	last.N = 299
	m := begun(t, over("i300 > i1", last))
	in := make([]int64, 300)
	in[299], in[298] = 5, 4
	wantTold(t, "the last one", m, in, []int64{5})
	wantRows(t, "all", over("b2 > b2", rule(api.QSlice, 0, 1, 0)), "1 0 > 1 0", "0 1 > 0 1")
}

// P9.1: QCat.
func TestCat(t *testing.T) {
	r := rule(api.QCat, 0, 2, 0, 1)
	wantRows(t, "one and one", over("i1 i1 > i2", r), "4 5 > 4 5")
	wantRows(t, "one and three", over("i1 i3 > i4", r), "4 5 6 7 > 4 5 6 7")
	wantRows(t, "three and one", over("i3 i1 > i4", r), "4 5 6 7 > 4 5 6 7")
	wantRows(t, "the other way", over("i3 i1 > i4", rule(api.QCat, 0, 2, 1, 0)), "4 5 6 7 > 7 4 5 6")
	wantRows(t, "truths", over("b2 b3 > b5", r), "1 0 0 1 1 > 1 0 0 1 1")
	wantRows(t, "twice the same", over("i2 > i4", rule(api.QCat, 0, 1, 0, 0)), "4 5 > 4 5 4 5")
}

// P9.1: fields that a rule does not have say nothing.
func TestFieldsOfOthers(t *testing.T) {
	rules := []api.Rule{number(5, 1), rule(api.QCopy, 0, 5, 2), rule(api.QUn, api.KNeg, 5, 2), rule(api.QBin, api.KSub, 5, 2, 3), rule(api.QIf, 0, 5, 4, 2, 3),
		rule(api.QFold, api.KSub, 5, 0, 2), rule(api.QScan, api.KSub, 5, 0, 2), rule(api.QFill, 0, 5, 0), rule(api.QIndex, 0, 5, 2, 0, 1), rule(api.QWith, 0, 5, 2, 0, 1),
		rule(api.QCat, 0, 5, 2, 3), pre(5, 2, 3), eachOf(5, arr(2, 1), idx(3), bin(api.KSub)), {Op: api.QScanE, K: api.KSub, Out: 5, A: []int{0}, E: []api.Push{arr(2, 0)}}}
	made := map[int]string{api.QNum: "i", api.QFold: "i", api.QIndex: "i", api.QCat: "i6", api.QEach: "i2"}
	for _, r := range rules {
		makes := made[r.Op]
		if makes == "" {
			makes = "i3"
		}
		s, other := over("i i i3 i3 b > "+makes, r), over("i i i3 i3 b > "+makes, r)
		o := &other.Rules[0]
		if r.Op < api.QEach {
			o.E = []api.Push{num(77), sca(0), {Op: 99, V: -5}}
		}
		switch r.Op {
		case api.QUn, api.QBin, api.QFold, api.QScan, api.QScanE:
		default:
			o.K = api.KMul
		}
		if r.Op != api.QNum {
			o.N = 1
		}
		m, n := begun(t, s), begun(t, other)
		for _, text := range []string{"1 2 3 4 5 6 7 8 0", "2 -1 9 8 7 6 5 4 1", "0 0 1 2 1 2 1 2 1"} {
			got, fault := n.Row(cells(text))
			want, _ := m.Row(cells(text))
			wantSame(t, fmt.Sprint("Op ", r.Op), []any{got, fault}, []any{want, api.Fault{}})
		}
	}
}
