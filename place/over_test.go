package place

import (
	"fmt"
	"testing"

	"loomwork/api"
)

// P13.2: only a QEach or a QScanE is made over anything; those are, whatever else they
// use.
func TestOverOps(t *testing.T) {
	seen := map[int]int{}
	for _, k := range everyKind() {
		s := api.System{Vars: append(everyType(), everyType()[k.makes], everyType()[k.makes]), In: upTo(0, 6)}
		r := k.making(6)
		s.Rules = []api.Rule{r}
		wantOver(t, fmt.Sprint("Op ", k.Op), s, r, 7, k.Op == api.QEach || k.Op == api.QScanE)
		seen[k.Op]++
	}
	if len(seen) != api.QScanE {
		t.Errorf("seen: %v", seen)
	}
	s := api.System{Vars: types("i4 i4"), In: []int{0}}
	for op := -3; op < 30; op++ {
		isOver := op == api.QEach || op == api.QScanE
		wantOver(t, fmt.Sprint("Op ", op), s, api.Rule{Op: op, Out: 1, E: []api.Push{arr(0, 0)}}, 0, isOver)
		wantOver(t, fmt.Sprint("Op ", op, " without steps"), s, api.Rule{Op: op, Out: 1}, 0, isOver)
	}
	for _, op := range []int{1 << 32, 1<<32 + api.QEach, least, greatest} {
		wantOver(t, fmt.Sprint("Op ", op), s, api.Rule{Op: op, Out: 1}, 0, false)
	}
}

// P13.2: what is made, and what it is made over, have the same N; Elem may be another
// one.
func TestOverSizes(t *testing.T) {
	s := api.System{Vars: types("i b i1 b1 i2 b2 i300 b300 i299")}
	for out, made := range s.Vars {
		for u, other := range s.Vars {
			same := made.N == other.N
			wantOver(t, fmt.Sprint("a QEach of ", out), s, each(out, num(1)), u, same)
			wantOver(t, fmt.Sprint("a QEach of ", out, " that uses it"), s, each(out, arr(u, 0)), u, same)
			scan := api.Rule{Op: api.QScanE, K: api.KAdd, Out: out, A: []int{9}, E: []api.Push{num(1)}}
			wantOver(t, fmt.Sprint("a QScanE of ", out), s, scan, u, same)
		}
	}
}

// P13.2: not if A has it.
func TestOverA(t *testing.T) {
	s := api.System{Vars: types("i i i4 i4"), In: []int{0, 2}}
	scan := api.Rule{Op: api.QScanE, K: api.KAdd, Out: 3, A: []int{0}, E: []api.Push{arr(2, 0)}}
	wantOver(t, "A has another one", s, scan, 2, true)
	wantOver(t, "A has a scalar", s, scan, 0, false)
	scan.A = []int{2}
	wantOver(t, "A has the array", s, scan, 2, false)
	scan.E = []api.Push{num(1)}
	wantOver(t, "A alone has the array", s, scan, 2, false)
	for _, a := range [][]int{{2}, {0, 2}, {2, 0}, {0, 0, 2, 0}} {
		scan.A = a
		wantOver(t, fmt.Sprint("A: ", a), s, scan, 2, false)
		r := each(3, arr(2, 0))
		r.A = a
		wantOver(t, fmt.Sprint("a QEach with A: ", a), s, r, 2, false)
	}
	scan.A = []int{0, 1, 3, -2, 4}
	wantOver(t, "A has others", s, scan, 2, true)
	scan.A = nil
	wantOver(t, "no A", s, scan, 2, true)
	scan.Out, scan.A = 1, []int{0}
	wantOver(t, "a scan that makes a scalar of it", s, scan, 0, false)
}

// P13.2: not if E has it in a PAt, or in a PArr whose N is not 0; a PSca, and a PArr
// whose N is 0, may have it, and so may none.
func TestOverE(t *testing.T) {
	const x, y, a, b, c = 0, 1, 2, 3, 4
	s := api.System{Vars: types("i i i4 i4 i4"), In: []int{x, a, c}}
	wantOver(t, "a scalar by PSca", s, each(y, sca(x)), x, true)
	wantOver(t, "a scalar twice", s, each(y, sca(x), sca(x), bin(api.KAdd)), x, true)
	for _, op := range []int{api.QEach, api.QScanE} {
		r := func(steps ...api.Push) api.Rule { return api.Rule{Op: op, K: api.KAdd, Out: b, A: nil, E: steps} }
		what := fmt.Sprint("Op ", op)
		wantOver(t, what+": not at all", s, r(num(1)), a, true)
		wantOver(t, what+": of another one", s, r(arr(c, 0)), a, true)
		wantOver(t, what+": PArr", s, r(arr(a, 0)), a, true)
		wantOver(t, what+": PArr twice", s, r(arr(a, 0), arr(a, 0), bin(api.KMul)), a, true)
		wantOver(t, what+": PArr and PSca", s, r(sca(x), arr(a, 0), bin(api.KMul)), a, true)
		for _, n := range []int64{1, -1, 2, 1 << 32, greatest, least} {
			wantOver(t, what+": PArr of another cell", s, r(arr(a, n)), a, false)
			wantOver(t, what+": PArr of both cells", s, r(arr(a, 0), arr(a, n), bin(api.KMul)), a, false)
			wantOver(t, what+": PArr of both cells", s, r(arr(a, n), arr(a, 0), bin(api.KMul)), a, false)
			wantOver(t, what+": PArr of the other one's cell", s, r(arr(a, 0), arr(c, n), bin(api.KMul)), a, true)
			step := api.Push{Op: api.PAt, V: a, N: n}
			wantOver(t, what+": PAt with N", s, r(num(1), num(1), step), a, false)
			step = api.Push{Op: api.PSca, V: a, N: n}
			wantOver(t, what+": PSca with N", s, r(step), a, true)
		}
		wantOver(t, what+": PAt", s, r(num(1), num(1), at(a)), a, false)
		wantOver(t, what+": PAt and PArr", s, r(num(1), arr(a, 0), at(a)), a, false)
		wantOver(t, what+": PAt of another one", s, r(num(1), arr(a, 0), at(c)), a, true)
		wantOver(t, what+": PAt of what is made", s, r(num(1), arr(a, 0), at(b)), a, true)
		wantOver(t, what+": PAt, the other one", s, r(num(1), arr(a, 0), at(c)), c, false)
	}
}

// P13.2: V of steps that have none, and what else is no field of a rule, is not looked
// at.
func TestOverNoField(t *testing.T) {
	s := api.System{Vars: types("i4 i4 i"), In: []int{0, 2}}
	for _, op := range []int{api.PNum, api.PSca, api.PIdx, api.PUn, api.PBin, api.PSel, 0, 9, -1, greatest} {
		for _, n := range []int64{0, 1, -1} {
			step := api.Push{Op: op, K: 0, V: 0, N: n}
			wantOver(t, fmt.Sprint("a step ", op), s, each(1, arr(0, 0), step), 0, true)
		}
	}
	for _, n := range []int64{0, 1, -1, 4, greatest} {
		for k := -1; k < 16; k++ {
			wantOver(t, "N and K of a QEach", s, api.Rule{Op: api.QEach, Out: 1, N: n, K: k, E: []api.Push{arr(0, 0)}}, 0, true)
			scan := api.Rule{Op: api.QScanE, Out: 1, N: n, K: k, A: []int{2}, E: []api.Push{arr(0, 0)}}
			wantOver(t, "N and K of a QScanE", s, scan, 0, true)
		}
	}
	other := api.System{Vars: s.Vars, Out: []int{0, 1}, Rules: []api.Rule{each(1, num(0), num(1), at(0))}}
	wantOver(t, "the system's own rules, In and Out", other, each(1, arr(0, 0)), 0, true)
}

// P13.2: what is no variable is made over nothing, and nothing over it; nothing panics.
func TestOverWhatever(t *testing.T) {
	s := api.System{Vars: types("i4 i4"), In: []int{0}}
	for _, v := range outside(2) {
		wantOver(t, fmt.Sprint("Out ", v), s, each(v, arr(0, 0)), 0, false)
		wantOver(t, fmt.Sprint("u ", v), s, each(1, arr(0, 0)), v, false)
		wantOver(t, fmt.Sprint("both ", v), s, each(v, arr(0, 0)), v, false)
		wantOver(t, fmt.Sprint("V ", v), s, each(1, arr(v, 1), at(v), arr(0, 0)), 0, true)
		wantOver(t, fmt.Sprint("no variables ", v), api.System{}, each(v), v, false)
	}
	wantOver(t, "nothing", api.System{}, api.Rule{}, 0, false)
	wantOver(t, "no variables", api.System{}, each(0), 0, false)
	wantOver(t, "empty lists", s, api.Rule{Op: api.QEach, Out: 1, A: []int{}, E: []api.Push{}}, 0, true)
	wantOver(t, "nil lists", s, api.Rule{Op: api.QEach, Out: 1}, 0, true)
	wantOver(t, "itself", s, each(1, arr(0, 0)), 1, true)
	d := dice(11)
	for i := range 40000 {
		s := anything(&d)
		r := each(d.below(6)-1, num(1))
		if len(s.Rules) > 0 && i%2 == 0 {
			r = s.Rules[0]
		}
		u := pick(&d, []int{-1, 0, 1, 2, 3, 4, 5, greatest, least})
		wantOver(t, fmt.Sprint("thrown ", i, ": ", s, r), s, r, u, saidOver(s, r, u))
	}
}
