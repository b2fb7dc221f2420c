package build

import (
	"fmt"
	"testing"

	"loomwork/api"
	"loomwork/dead"
	"loomwork/fuse"
	"loomwork/inst"
	"loomwork/order"
	"loomwork/syntax"
)

// P15.1: the chapter's example.
func TestExample(t *testing.T) {
	const a, b = 0, 1
	s := with("i5 i3", each(b, "a0+1"))
	s.Out = []int{b}
	p := lying(12, "1 9 > -1")
	wantSteps(t, "b = QEach PArr a 1", s, p, all(9, 3, "a2"))
	wantLists(t, "b = QEach PArr a 1", s, p, "1..5 > 9..11 >")
	wantTold(t, "b = QEach PArr a 1", s, p, "1 2 3 4 5 > 2 3 4", "6 7 8 9 10 > 7 8 9")
}

// systemOf is a text's program as a system that is sorted and trimmed.
func systemOf(t *testing.T, text string) api.System {
	t.Helper()
	program, fault := syntax.Parse(text)
	wantSame(t, text+": Parse's fault", fault, api.Fault{})
	s, fault := inst.Make(program)
	wantSame(t, text+": Make's fault", fault, api.Fault{})
	s, fault = dead.Trim(s)
	wantSame(t, text+": Trim's fault", fault, api.Fault{})
	s, fault = order.Sort(s)
	wantSame(t, text+": Sort's fault", fault, api.Fault{})
	return s
}

func fusedOf(t *testing.T, text string) api.System {
	t.Helper()
	fused, fault := fuse.Fuse(systemOf(t, text))
	wantSame(t, text+": Fuse's fault", fault, api.Fault{})
	return fused
}

// P15.1: the examples of DOC.md, as loops.
func TestDocument(t *testing.T) {
	const sums = "node main(x: int) -> (y: int) { y = x + pre(0, y); }"
	s := fusedOf(t, sums)
	wantTold(t, sums, s, planOf(t, sums, s), "3 > 3", "4 > 7", "5 > 12")

	const products = "node main(a: int^4, b: int^4) -> (s: int) { s = fold(add, 0, map(mul, a, b)); }"
	s = fusedOf(t, products)
	p := planOf(t, products, s)
	zero, sum := s.Rules[0].Out, s.Rules[1].Out
	from := api.Loop{Op: api.LOne, To: p.At[zero], E: tree("0")}
	loop := fold(api.KAdd, p.At[sum], 4, fmt.Sprint("s", p.At[zero]), "a1 a5 mul")
	wantSteps(t, products, s, p, from, loop)
	wantTold(t, products, s, p, "1 2 3 4 5 6 7 8 > 70", "1 1 1 1 -1 -1 -1 -1 > -4")

	const put = "node main(q: int^6) -> (w: int^6) { w = with(q, 1, 5); }"
	s = fusedOf(t, put)
	wantSteps(t, put, s, planOf(t, put, s), all(1, 6, "k 1 eq 5 a1 sel"))
	wantTold(t, put, s, planOf(t, put, s), "1 2 3 4 5 6 > 1 5 3 4 5 6", "9 9 9 9 9 9 > 9 5 9 9 9 9")
}

// What follows: programs tell what they mean, in their normal form and fused, row by row.
func TestPrograms(t *testing.T) {
	for _, text := range []string{
		"node main(x: int) -> (y: int) { y = x + pre(0, y); }",
		"node main(x: int) -> (y: int, z: int) { y = pre(x, pre(x, z)); z = x * 2 + y; }",
		"node main(c: bool, x: int) -> (y: int) { y = if not c then x * 3 else -x; }",
		"node main(c: bool^3, d: bool) -> (e: bool^3, f: bool) { e = map(xor, pre(c, e), fill(d, 3)); f = fold(or, d, e); }",
		"node main(x: int) -> (a: int^3) { a = fill(x + 1, 3); }",
		"node main(a: int^5) -> (b: int^2, x: int) { b = slice(slice(a, 1, 4), 2, 2); x = a[7 : 9]; }",
		"node main(a: int^5, i: int) -> (x: int) { x = a[i : 9] + pre(0, x); }",
		"node main(a: int^3) -> (b: int^6) { b = cat(map(neg, a), a); }",
		"node main(a: int^3) -> (b: int^9) { b = cat(cat(a, pre(a, a)), scan(max, 0, a)); }",
		"node main(a: int^3) -> (b: int^3) { b = scan(add, 0, map(mul, a, fill(3, 3))); }",
		"node main(a: int^4, i: int) -> (b: int^4) { b = with(pre(a, b), i, fold(add, 1, a)); }",
		"node main(a: int^1) -> (b: int^1, c: int^2) { b = map(add, a, pre(a, b)); c = cat(a, b); }",
		"node f(x: int) -> (y: int) { y = x + pre(1, y); } node main(x: int) -> (y: int) { y = call f(x); }",
	} {
		s := systemOf(t, text)
		normal, fault := fuse.Norm(s)
		wantSame(t, text+": Norm's fault", fault, api.Fault{})
		for _, of := range []api.System{normal, fusedOf(t, text)} {
			p := planOf(t, text, of)
			wantSame(t, text+": the code", holdAgainstSaid(t, text, of, p), 0)
			wantMeant(t, text, of, p, s, 40)
		}
	}
}
