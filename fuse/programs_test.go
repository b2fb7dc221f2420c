package fuse

import (
	"testing"

	"loomwork/api"
	"loomwork/dead"
	"loomwork/inst"
	"loomwork/order"
	"loomwork/syntax"
)

// systemOf is a text's program as a system, as it is to be before it is fused: sorted,
// and all of it needed.
func systemOf(t *testing.T, text string) api.System {
	t.Helper()
	p, fault := syntax.Parse(text)
	if fault.Code != 0 {
		t.Fatalf("Parse(%q): fault %v", text, fault)
	}
	s, fault := inst.Make(p)
	if fault.Code != 0 {
		t.Fatalf("Make(%q): fault %v", text, fault)
	}
	s, fault = dead.Trim(s)
	wantSame(t, text+": Trim's fault", fault, api.Fault{})
	s, fault = order.Sort(s)
	wantSame(t, text+": Sort's fault", fault, api.Fault{})
	return s
}

// P11: the chapter's examples.
func TestExamples(t *testing.T) {
	b := rule(api.QBin, api.KAdd, 1, 0, 0)
	s := over("i4 i4 i4", b, rule(api.QBin, api.KMul, 2, 1, 1))
	wantFused(t, "b is used twice", s, each(1, arr(0, 0), arr(0, 0), add()), each(2, arr(1, 0), arr(1, 0), bin(api.KMul)))
	s = over("i4 i4 i3", b, slice(2, 1, 1))
	wantNorm(t, "a slice", s, each(1, arr(0, 0), arr(0, 0), add()), each(2, arr(1, 1)))
	wantFused(t, "a slice", s, each(2, arr(0, 1), arr(0, 1), add()))
	text := "node main(a: int^4) -> (c: int^3) { var b: int^4; b = map(add, a, a); c = slice(b, 1, 3); }"
	wantSame(t, text, fusedOf(t, text, systemOf(t, text)).Rules, []api.Rule{each(1, arr(0, 1), arr(0, 1), add())})
}

// 'Examples' of the document: a fold over a map is one loop; with is one, too.
func TestOneLoop(t *testing.T) {
	text := "node main(a: int^4, b: int^4) -> (s: int) { s = fold(add, 0, map(mul, a, b)); }"
	rules := fusedOf(t, text, systemOf(t, text)).Rules
	wantSame(t, "how many rules", len(rules), 2)
	zero := rules[0].Out
	wantSame(t, text, rules, []api.Rule{each(zero, num(0)), foldE(api.KAdd, 2, 4, zero, arr(0, 0), arr(1, 0), bin(api.KMul))})
	text = "node main(q: int^4) -> (w: int^4) { w = with(q, 1, 5); }"
	wantSame(t, text, fusedOf(t, text, systemOf(t, text)).Rules, []api.Rule{each(1, idx(0), num(1), bin(api.KEq), num(5), arr(0, 0), sel())})
}

// P11: programs, and how many rules they have when they are fused.
func TestPrograms(t *testing.T) {
	left := map[string]int{
		"node main(x: int) -> (y: int) { y = x + pre(0, y); }":                                         3,
		"node main(x: int) -> (y: int) { var z: int; z = x + 1; y = z * 2 - x; }":                      1,
		"node main(x: int) -> (y: int) { var z: int; z = x + 1; y = z * z; }":                          2,
		"node main(c: bool, x: int) -> (y: int) { y = if not c then x * 3 else -x; }":                  1,
		"node main(x: int) -> (a: int^3) { a = fill(x, 3); }":                                          1,
		"node main(x: int) -> (a: int^3) { a = fill(x + 1, 3); }":                                      2,
		"node main(a: int^5) -> (b: int^2, x: int) { b = slice(slice(a, 1, 4), 2, 2); x = a[7 : 9]; }": 2,
		"node main(a: int^3) -> (b: int^6) { b = cat(map(neg, a), a); }":                               2,
		"node main(a: int^3) -> (b: int^3) { b = scan(add, 0, map(mul, a, fill(3, 3))); }":             2,
		"node main(a: bool^3, c: bool) -> (d: bool) { d = fold(and, c, map(not, map(not, a))); }":      1,
		"node f(x: int) -> (y: int) { y = x + 1; } node main(x: int) -> (y: int) { y = call f(x); }":   1,
	}
	for text, count := range left {
		s := systemOf(t, text)
		holdAgainstSaid(t, text, s, map[string]int{})
		wantSame(t, text+": how many rules", len(fusedOf(t, text, s).Rules), count)
		wantFollows(t, text, s)
	}
}
