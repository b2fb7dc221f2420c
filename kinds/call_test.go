package kinds

import (
	"fmt"
	"strconv"
	"strings"
	"testing"

	"loomwork/api"
)

const twoSizes = "node f<n, k>(a: int^n, b: bool^2*k - n) -> (c: bool^n + k, d: int) { c = fill(true, k + n); d = 0; } " // equations 0 and 1

// P5.1: which nodes may be called.
func TestCalledNodes(t *testing.T) {
	node := func(name, body string) string { return " node " + name + "() -> (y: int) { y = " + body + "; }" }
	wantRight(t, node("f", "0")+node("main", "call f()"))
	wantRight(t, node("f", "0")+node("g", "call f()")+node("h", "call g()")+node("main", "call f()"))
	wantRight(t, node("main", "0")+node("g", "call main()"))
	wantWrong(t, node("main", "call f()")+node("f", "0"), api.ErrNode, 0)
	wantWrong(t, node("main", "call main()"), api.ErrNode, 0)
	wantWrong(t, node("f", "0")+node("main", "call g()"), api.ErrNode, 1)
	wantWrong(t, node("f", "0")+node("g", "call g()")+node("main", "0"), api.ErrNode, 1)
	wantWrong(t, node("f", "0")+node("g", "call h()")+node("h", "call f()")+node("main", "0"), api.ErrNode, 1)
	for _, name := range []string{"y", "q", "f1", "o"} {
		wantWrong(t, node("f", "0")+node("main", "call "+name+"()"), api.ErrNode, 1)
	}
	wantWrong(t, "node n() -> (y: int) { y = 0; } node f<k>(z: int) -> (y: int) { y = call k(); }"+aMain, api.ErrNode, 1)
}

// P5.1: as many sizes, expressions and names as the node has.
func TestCallCounts(t *testing.T) {
	// row is so many pieces, the number of each in it.
	row := func(count int, piece string) string {
		var all []string
		for i := range count {
			all = append(all, strings.ReplaceAll(piece, "#", strconv.Itoa(i)))
		}
		return strings.Join(all, ", ")
	}
	angled := func(count int, piece string) string {
		if count == 0 {
			return ""
		}
		return "<" + row(count, piece) + ">"
	}
	unrow := func(s string) string { return strings.ReplaceAll(s, ";,", ";") }
	for sizes := range 4 {
		for ins := range 4 {
			for outs := 1; outs < 4; outs++ {
				for given := range 4 * 4 * 3 {
					s, e, n := given%4, given/4%4, given/16+1
					text := "node f" + angled(sizes, "n#") + "(" + row(ins, "a#: int") + ") -> (" + row(outs, "y#: int") + ") { " + unrow(row(outs, "y# = 0;")) + " } " +
						"node main() -> (o: int) { " + unrow(row(n, "var v#: int;")) + " o = 0; " + row(n, "v#") + " = call f" + angled(s, "2") + "(" + row(e, "7") + "); }"
					if s == sizes && e == ins && n == outs {
						wantRight(t, text)
					} else {
						wantWrong(t, text, api.ErrCount, outs+1)
					}
				}
			}
		}
	}
	none := "node f() -> (y: int) { y = 0; } "
	wantRight(t, none+"node main() -> (o: int) { o = call f(); }")
	wantWrong(t, none+"node main() -> (o: int) { o = call f(1); }", api.ErrCount, 1)
	wantWrong(t, none+"node main() -> (o: int) { o = call f<1>(); }", api.ErrCount, 1)
	wantWrong(t, none+"node main() -> (o: int, p: int) { o, p = call f(); }", api.ErrCount, 1)
}

// P5.1: the types of what is given and made, with sizes that are put in.
func TestCallTypes(t *testing.T) {
	node := func(inputs, outputs, call string) string {
		return twoSizes + "node g<n, m>(" + inputs + ") -> (" + outputs + ") { y, z = call f" + call + "; }" + aMain
	}
	wantRight(t, node("p: int^2, q: bool^4", "y: bool^5, z: int", "<2, 3>(p, q)"))
	wantRight(t, node("p: int^m, q: bool^2*n - m", "y: bool^m + n, z: int", "<m, n>(p, q)"))
	wantRight(t, node("p: int^n + 1, q: bool^2*m - n + 3", "y: bool^m + n + 3, z: int", "<1 + n, m + 2>(p, q)"))
	wantRight(t, node("p: int^n, q: bool^n", "y: bool^2*n, z: int", "<n, n>(p, q)"))
	wantRight(t, node("", "y: bool^n + m, z: int", "<n, m>(fill(0, n), cat(fill(true, m - n), fill(true, m)))"))
	wantRight(t, node("p: int", "y: bool^3, z: int", "<1, 2>(cat(fill(p, n), fill(p, 1 - n)), map(less, fill(1, 3), fill(p, 3)))"))
	for _, wrong := range []string{
		node("p: int^3, q: bool^4", "y: bool^5, z: int", "<2, 3>(p, q)"),
		node("p: int, q: bool^4", "y: bool^5, z: int", "<2, 3>(p, q)"),
		node("p: bool^2, q: bool^4", "y: bool^5, z: int", "<2, 3>(p, q)"),
		node("p: int^2, q: bool^3", "y: bool^5, z: int", "<2, 3>(p, q)"),
		node("p: int^2, q: int^4", "y: bool^5, z: int", "<2, 3>(p, q)"),
		node("p: int^2, q: bool^4", "y: bool^6, z: int", "<2, 3>(p, q)"),
		node("p: int^2, q: bool^4", "y: int^5, z: int", "<2, 3>(p, q)"),
		node("p: int^2, q: bool^4", "y: bool, z: int", "<2, 3>(p, q)"),
		node("p: int^2, q: bool^4", "y: bool^5, z: bool", "<2, 3>(p, q)"),
		node("p: int^2, q: bool^4", "y: bool^5, z: int^1", "<2, 3>(p, q)"),
		node("p: int^2, q: bool^4", "y: bool^5, z: int", "<3, 2>(p, q)"),
		node("p: int^2, q: bool^4", "y: bool^5, z: int", "<2, 3>(q, p)"),
		node("p: int^n, q: bool^2*n - m", "y: bool^m + n, z: int", "<m, n>(p, q)"),
		node("p: int^m, q: bool^2*n - m", "z: bool^m + n, y: int", "<m, n>(p, q)"),
	} {
		wantWrong(t, wrong, api.ErrType, 2)
	}
	scalars := "node f<n>(a: int, b: bool) -> (c: bool, d: int) { c = b; d = a; } node main() -> (y: bool, z: int) { y, z = call f<%s>(%s); }"
	wantRight(t, fmt.Sprintf(scalars, "1000000", "1, true"))
	wantWrong(t, fmt.Sprintf(scalars, "0", "true, true"), api.ErrType, 2)
	wantWrong(t, fmt.Sprintf(scalars, "0", "1, 1"), api.ErrType, 2)
	wantWrong(t, fmt.Sprintf(scalars, "0", "fill(1, 1), true"), api.ErrType, 2)
	wantWrong(t, fmt.Sprintf(scalars, "0", "1, fill(true, 0)"), api.ErrType, 2)
}

// P5.1: a call's sizes speak of the node that calls, not of the one called.
func TestCallSizes(t *testing.T) {
	call := func(size string) string {
		return "node f<k>(a: int) -> (c: int) { c = a; } node g<n>(x: int^n) -> (y: int) { y = call f<" + size + ">(0); }" + aMain
	}
	for _, size := range []string{"n", "n + 1", "0", "-1", "n - n", "1000000*n", "-1000000"} {
		wantRight(t, call(size))
	}
	for _, size := range []string{"k", "x", "y", "f", "n + k", "0*k", "1000001*k", "1000001 + k"} {
		wantWrong(t, call(size), api.ErrNone, 1)
	}
	for _, size := range []string{"1000001", "-1000001", "1000001*n", "n + 1000001 - 1000001"} {
		wantWrong(t, call(size), api.ErrRange, 1)
	}
}

// P5.1: sizes that are put in and come to a fault.
func TestCallRange(t *testing.T) {
	input := func(of, s, x string) string {
		return "node f<n, k>(a: int^" + of + ") -> (c: int) { c = 0; } node g<m>(x: int^" + x + ") -> (y: int) { y = call f<" + s + ">(x); }" + aMain
	}
	output := func(of, s, y string) string {
		return "node f<n, k>(a: int) -> (c: int^" + of + ") { c = fill(0, " + of + "); } node g<m>(x: int) -> (y: int^" + y + ") { y = call f<" + s + ">(x); }" + aMain
	}
	for _, text := range []func(of, s, x string) string{input, output} {
		wantRight(t, text("1000*n", "1000*m, 0", "1000000*m"))
		wantRight(t, text("1000000*n", "1, 0", "1000000"))
		wantRight(t, text("1000000*n + 1000000*k", "m, m", "1000000*m + 1000000*m"))
		wantRight(t, text("n - n + k", "1000000, 7", "7"))
		wantRight(t, text("2*n", "0, 1000000", "0"))
		wantRight(t, text("k", "1000000, 0*m", "m - m"))
		wantRight(t, text("n - k", "m, m", "0"))
		wantWrong(t, text("1000*n", "1001*m, 0", "m"), api.ErrRange, 1)
		wantWrong(t, text("1000000*n", "2, 0", "m"), api.ErrRange, 1)
		wantWrong(t, text("1000000*n", "-2, 0", "m"), api.ErrRange, 1)
		wantWrong(t, text("-1000000*k", "0, 1000000", "m"), api.ErrRange, 1)
		wantWrong(t, text("2*n - 2*n", "1000000, 0", "0"), api.ErrRange, 1)
		wantWrong(t, text("n - k", "m, m", "m"), api.ErrType, 1)
	}
	scalar := "node f<n>(a: int, b: int^2*n) -> (c: int) { c = 0; } node main() -> (y: int) { y = call f<1000000>(%s); }"
	wantWrong(t, fmt.Sprintf(scalar, "0, 0"), api.ErrRange, 1)
	wantWrong(t, fmt.Sprintf(scalar, "true, 0"), api.ErrType, 1)
}

// P5.1: a size that is put in and comes to nothing is that of an array.
func TestCallOfNone(t *testing.T) {
	text := func(s, e, y string) string {
		return "node f<n, k>(a: int^n - k) -> (c: bool^k - n) { c = fill(true, k - n); } node g<m>(x: int^m - m) -> (y: " + y + ") { y = call f<" + s + ">(" + e + "); }" + aMain
	}
	for _, s := range []string{"m, m", "0, 0", "2*m - 1, m - 1 + m"} {
		wantRight(t, text(s, "x", "bool^0"))
		wantRight(t, text(s, "fill(0, 0)", "bool^m - m"))
		wantWrong(t, text(s, "0", "bool^0"), api.ErrType, 1)
		wantWrong(t, text(s, "x", "bool"), api.ErrType, 1)
		wantWrong(t, text(s, "fill(0, 1)", "bool^0"), api.ErrType, 1)
	}
}
