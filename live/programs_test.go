package live

import (
	"testing"

	"loomwork/api"
	"loomwork/fuse"
	"loomwork/inst"
	"loomwork/order"
	"loomwork/syntax"
)

// systemOf is a text's program as a sorted system.
func systemOf(t *testing.T, text string) api.System {
	t.Helper()
	p, fault := syntax.Parse(text)
	wantSame(t, text+": Parse's fault", fault, api.Fault{})
	s, fault := inst.Make(p)
	wantSame(t, text+": Make's fault", fault, api.Fault{})
	s, fault = order.Sort(s)
	wantSame(t, text+": Sort's fault", fault, api.Fault{})
	return s
}

// P12: programs: what is kept for the next row, what is made in between, and what is
// fused, so that less is needed at once.
func TestPrograms(t *testing.T) {
	sums := systemOf(t, "node main(x: int) -> (y: int) { y = x + pre(0, y); }")
	if !holdAgainstSaid(t, "sums", sums) {
		t.Errorf("sums: not sorted")
	}
	spans, _ := Spans(sums)
	count := len(sums.Rules)
	wantSame(t, "sums: x and y", spans[:2], []api.Span{{From: -1, To: count - 1}, {From: count - 1, To: count}})

	products := systemOf(t, "node main(a: int^4, b: int^4) -> (s: int) { s = fold(add, 0, map(mul, a, b)); }")
	holdAgainstSaid(t, "products", products)
	most, fault := Most(products)
	wantSame(t, "products: Most", []any{most, fault}, []any{13, api.Fault{}}) // a, b, their products, and the 0
	fused, _ := fuse.Fuse(products)
	holdAgainstSaid(t, "products, fused", fused)
	most, fault = Most(fused)
	wantSame(t, "products, fused: Most", []any{most, fault}, []any{10, api.Fault{}}) // a, b, the 0, and s

	with := systemOf(t, "node main(q: int^6) -> (w: int^6) { w = with(q, 1, 5); }")
	spans, _ = Spans(with)
	wantSame(t, "q and w", spans[:2], readSpans("-1~2 2~3"))
	most, fault = Most(with)
	wantSame(t, "w: Most", []any{most, fault}, []any{14, api.Fault{}})
}
