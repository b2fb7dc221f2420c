package inst

import (
	"fmt"
	"math"
	"slices"
	"strings"
	"testing"

	"loomwork/api"
)

// wantBounds asks of a text with a # in it that it is right with each of the
// numbers, and has ErrSize there with each of the others.
func wantBounds(t *testing.T, text string, at int, within, beyond []int) {
	t.Helper()
	for _, n := range within {
		wantRight(t, strings.ReplaceAll(text, "#", fmt.Sprint(n)))
	}
	for _, n := range beyond {
		wantWrong(t, strings.ReplaceAll(text, "#", fmt.Sprint(n)), api.ErrSize, at)
	}
}

var (
	arrays    = []int{1, 2, 299, api.MaxArray}
	noArrays  = []int{0, -1, api.MaxArray + 1, 1000000, -1000000}
	inCalls   = []int{0, 1, 299, api.MaxArray}
	notInCall = []int{-1, api.MaxArray + 1, 1000000, -1000000}
)

// ahead is two nodes with five equations, to stand ahead of others.
const ahead = "node a(x: int) -> (y: int) { var z: int; y = x; z = y; } node b(x: int) -> (y: int) { var u: int; var v: int; y = x; u = y; v = u; } "

// P6: a declared array has from 1 to MaxArray cells; of main's inputs, outputs
// and locals the place is -2 less the node's number.
func TestSizesDeclared(t *testing.T) {
	texts := []string{
		"node main(x: int, a: int^#) -> (y: int) { y = 0; } ",
		"node main(x: int, a: bool^#, c: bool^1) -> (y: int) { y = 0; } ",
		"node main(x: int) -> (y: int, a: int^#) { y = 0; a = a; } ",
		"node main(x: int) -> (a: bool^#, y: int) { y = 0; a = a; } ",
		"node main(x: int) -> (y: int) { var v: int; y = v; v = 1; var a: bool^#; a = a; } ",
		"node main(x: int) -> (y: int) { y = 0; a = fill(0, #); var a: int^#; } ",
	}
	for _, text := range texts {
		wantBounds(t, text, -2, arrays, noArrays)
		wantBounds(t, text+ahead, -2, arrays, noArrays)
		wantBounds(t, ahead+text, -4, arrays, noArrays)
	}
}

// P6: locals of a node that is called: the place is that node's.
func TestSizesDeclaredInCalls(t *testing.T) {
	const calls = "node h<m>(x: int) -> (y: int) { y = call g<m + 1>(x); } node main(x: int) -> (y: int) { y = call h<#>(x); }"
	wantBounds(t, "node g<n>(x: int) -> (y: int) { var v: int; var w: int^n - 1; v = x; y = v; w = w; } "+calls, -2, inCalls[1:3], []int{0})
	wantBounds(t, ahead+"node g<n>(x: int) -> (y: int) { var v: int; var w: bool^n; v = x; y = v; w = w; } "+calls, -4, []int{0, 1, 298, 299}, nil)
	wantBounds(t, ahead+"node g<n>(x: int) -> (y: int) { var v: int; var w: bool^n + 1; v = x; y = v; w = w; } "+calls, -4, []int{0, 1, 298}, []int{299})
	wantBounds(t, ahead+"node g<n>(x: int) -> (y: int) { var w: int^3*n - 10; w = w; y = x; } "+calls, -4, []int{3, 102}, []int{0, 1, 2, 103, 299})
}

// P6: inputs and outputs of a node that is called are reckoned, too. (Since they
// have the sizes of what they are called with, no program comes to such a fault.)
func TestSizesOfInputsInCalls(t *testing.T) {
	p := parsed(t, ahead+"node f<n, m>(a: int, b: int^n) -> (c: int^m, d: int) { c = c; d = a; }")
	for _, c := range []struct{ n, m, code, at int }{
		{1, 1, 0, 0},
		{300, 300, 0, 0},
		{0, 1, api.ErrSize, -4},
		{301, 1, api.ErrSize, -4},
		{1, 0, api.ErrSize, -4},
		{1, 301, api.ErrSize, -4},
	} {
		f := (&growth{nodes: p.Nodes}).frameOf("f", []int{c.n, c.m})
		f.vars = types("i i1 i1 i")
		got := caught(func() { f.unroll([]int{0, 1}, []int{2, 3}) })
		if got != (api.Fault{Code: c.code, At: c.at}) {
			t.Errorf("with %d and %d: fault %v, want {%d %d}", c.n, c.m, got, c.code, c.at)
		}
	}
}

// P6: XFill's size is from 1 to MaxArray.
func TestSizesOfFill(t *testing.T) {
	wantBounds(t, ahead+"node main(x: int) -> (y: int, z: int) { y = x; z = fold(add, 0, fill(x, #)); }", 6, arrays, noArrays)
	wantBounds(t, "node main(x: int) -> (y: int, z: bool) { z = 1 < fill(x, #)[fill(x, 300)[x : 0] : 0]; y = x; }", 0, arrays, noArrays)
	wantBounds(t, "node f<n>() -> (y: int, z: int) { y = 0; z = fold(add, 0, fill(1, 2*n - 1)); } "+
		"node main(x: int) -> (y: int, z: int) { y, z = call f<#>(); }", 1, []int{1, 150}, []int{0, 151, 300})
}

// P6: a call's sizes are from 0 to MaxArray.
func TestSizesOfCalls(t *testing.T) {
	const f = "node f<n, m>() -> (y: int) { y = 0; } "
	wantBounds(t, f+"node main() -> (y: int) { y = call f<#, 0>(); } ", 1, inCalls, notInCall)
	wantBounds(t, f+ahead+"node main() -> (z: int, y: int) { z = 0; y = call f<300, #>(); } ", 7, inCalls, notInCall)
	wantBounds(t, f+"node g<k>() -> (y: int) { var z: int; z = 1; y = call f<k, 2*k - 9>(); } node main() -> (y: int) { y = call g<#>(); }", 2, []int{5, 154}, []int{0, 4, 155})
}

// P6: XSlice's first size is from 0 to the array's, the second one from 1 to what
// is left.
func TestSizesOfSlice(t *testing.T) {
	const cells = 5
	for from := -2; from <= cells+2; from++ {
		for count := -2; count <= cells+2; count++ {
			part := fmt.Sprintf("node main(a: int^5) -> (y: int, z: int) { y = 0; z = fold(add, y, slice(a, %d, %d)); }", from, count)
			whole := fmt.Sprintf("node main(a: int^5) -> (y: int, z: int^%d) { y = 0; z = slice(a, %d, %d); }", count, from, count)
			isWithin := from >= 0 && count >= 1 && from+count <= cells
			switch {
			case isWithin:
				wantMade(t, part, 1, 2, fmt.Sprint("i5 i i i", count), number(1, 0), slice(3, int64(from), 0), rule(api.QFold, api.KAdd, 2, 1, 3))
				wantMade(t, whole, 1, 2, fmt.Sprint("i5 i i", count), number(1, 0), slice(2, int64(from), 0))
			case count < 1:
				wantWrong(t, part, api.ErrSize, 1)
				wantWrong(t, whole, api.ErrSize, -2)
			default:
				wantWrong(t, part, api.ErrSize, 1)
				wantWrong(t, whole, api.ErrSize, 1)
			}
		}
	}
	wantBounds(t, "node main(a: bool^300) -> (y: bool) { y = slice(a, #, 1)[0 : true]; }", 0, []int{0, 299}, []int{-1, 300, 301, 1000000, -1000000})
	wantBounds(t, "node main(a: bool^300) -> (y: bool) { y = slice(a, 1, #)[0 : true]; }", 0, []int{1, 299}, []int{-1, 0, 300, 1000000, -1000000})
	wantBounds(t, "node main(a: int^8) -> (y: int) { y = fold(add, 0, slice(slice(a, 2, 5), #, 2)); }", 0, []int{0, 3}, []int{-1, 4, 6})
	wantBounds(t, "node f<n>(a: int^n + 3) -> (y: int) { y = fold(add, 0, slice(a, 2*n, 2)); } "+
		"node main() -> (y: int) { y = call f<#>(fill(0, # + 3)); }", 0, []int{0, 1}, []int{2, 3, 297})
}

// P6: XCat's array has at most MaxArray cells.
func TestSizesOfCat(t *testing.T) {
	wantBounds(t, "node main(a: int^150, b: int^#) -> (y: int) { y = 0; var v: int; v = fold(add, 0, cat(a, b)); }", 1, []int{1, 150}, []int{151, 300})
	wantBounds(t, "node main(a: int^#, b: int^1) -> (y: int) { y = fold(add, 0, cat(a, b)); }", 0, []int{1, 299}, []int{300})
	wantBounds(t, "node main(a: int^#, b: int^1) -> (y: int) { y = fold(add, 0, cat(b, a)); }", 0, []int{1, 299}, []int{300})
	wantBounds(t, "node main(a: int^100, b: int^#) -> (y: int) { y = fold(add, 0, slice(cat(cat(a, b), a), 0, 1)); }", 0, []int{1, 100}, []int{101, 201})
	wantBounds(t, ahead+"node f<n>(a: bool^n) -> (y: bool^1) { y = slice(cat(a, cat(a, a)), 0, 1); } node main() -> (y: bool^1) { y = call f<#>(fill(true, #)); }", 5, []int{1, 100}, []int{101, 300})
	wantMade(t, "node main(a: int^150) -> (b: int^300) { b = cat(a, a); }", 1, 1, "i150 i300", rule(api.QCat, 0, 1, 0, 0))
	wantWrong(t, "node main(a: int^151) -> (b: int^302) { b = cat(a, a); }", api.ErrSize, -2)
}

// P6: a size is what its terms come to: each of them may lie beyond.
func TestSizesOfTerms(t *testing.T) {
	wantMade(t, "node f<n, m>(a: int^m - 2*n) -> (b: int^1000*n - 999*n - n + 2) { b = slice(a, 4*n - 2*m + 13, 3*n - 3*n + 2); } "+
		"node main(x: int^200 + 1000000 - 999999 - 198) -> (y: int^2) { y = call f<50 - 48, 1 + 9>(slice(cat(x, cat(x, x)), 500000 - 499998, 6)); }", 1, 1,
		"i3 i2 i6 i9 i6",
		rule(api.QCat, 0, 2, 0, 0), rule(api.QCat, 0, 3, 0, 2), slice(4, 2, 3), slice(1, 1, 4))
}

// P6: a size that has a fault: kinds.Check tells it; where it is reckoned, it is
// ErrSize.
func TestSizesWithFaults(t *testing.T) {
	wantWrong(t, "node main(x: int^1000001) -> (y: int) { y = 0; }", api.ErrRange, -2)
	wantWrong(t, "node main(x: int) -> (y: int) { y = fold(add, 0, fill(0, 1000002 - 1000001)); }", api.ErrRange, 0)
	wantWrong(t, "node main(x: int) -> (y: int) { y = fold(add, 0, fill(0, n)); }", api.ErrNone, 0)
	p := parsed(t, ahead+"node main() -> (y: int) { y = 0; }")
	for _, s := range []api.Size{
		{{N: 1000001}, {N: -1000000}},
		{{N: 1}, {N: 1, Name: "q"}},
		{{N: 1, Name: "k"}},
		{{N: 1, Name: "m"}},
		slices.Repeat(api.Size{{N: 0}}, 1001),
		{{N: math.MinInt64}},
	} {
		f := (&growth{nodes: p.Nodes}).frameOf("main", []int{1, 1000001})
		f.Sizes, f.place = []string{"n", "k", "m"}, 8
		if got := caught(func() { f.reckon(s, math.MinInt, math.MaxInt) }); got != (api.Fault{Code: api.ErrSize, At: 8}) {
			t.Errorf("%.100s: fault %v", fmt.Sprint(s), got)
		}
		if got := caught(func() { f.reckon(api.Size{{N: 3}, {N: 2, Name: "n"}}, 5, 5) }); got != (api.Fault{}) {
			t.Errorf("fault %v", got)
		}
	}
}

// caught answers the fault by which a function gave up.
func caught(do func()) (fault api.Fault) {
	defer func() {
		if why, is := recover().(givenUp); is {
			fault = why.fault
		}
	}()
	do()
	return api.Fault{}
}
