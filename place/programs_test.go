package place

import (
	"slices"
	"testing"

	"loomwork/api"
	"loomwork/fuse"
	"loomwork/inst"
	"loomwork/live"
	"loomwork/order"
	"loomwork/syntax"
)

// systemOf is a text's program as a sorted system.
func systemOf(t *testing.T, text string) api.System {
	t.Helper()
	p, fault := syntax.Parse(text)
	wantSame(t, text+": Parse's fault", fault, api.Fault{})
	s, fault := inst.Make(p)
	wantSame(t, text+": Make's fault", fault, api.Fault{})
	s, fault = order.Sort(s)
	wantSame(t, text+": Sort's fault", fault, api.Fault{})
	return s
}

// placesOfNames answers where the first so many variables lie: those of what is In, and
// then of what is Out.
func placesOfNames(t *testing.T, what string, s api.System, count int) ([]int, int) {
	t.Helper()
	wantSame(t, what+": the code", holdAgainstSaid(t, what, s), 0)
	got, _ := Make(s)
	return got.At[:count], got.Cells
}

// P13: the chapter's example, and those of DOC.md, as programs.
func TestPrograms(t *testing.T) {
	twice := systemOf(t, "node main(a: int^4) -> (b: int^4) { b = map(add, a, a); }")
	places, cells := placesOfNames(t, "twice", twice, 2)
	wantSame(t, "twice, by a QBin", []any{places, cells}, []any{[]int{1, 5}, 9})
	normal, _ := fuse.Norm(twice)
	places, cells = placesOfNames(t, "twice, normal", normal, 2)
	wantSame(t, "twice, by a QEach", []any{places, cells}, []any{[]int{1, 1}, 5})

	sums := systemOf(t, "node main(x: int) -> (y: int) { y = x + pre(0, y); }")
	fused, _ := fuse.Fuse(sums)
	got, fault := Make(fused)
	wantSame(t, "sums", []any{got.At[:2], slices.Max(got.Keep), fault}, []any{[]int{2, 2}, 1, api.Fault{}})

	products := systemOf(t, "node main(a: int^4, b: int^4) -> (s: int) { s = fold(add, 0, map(mul, a, b)); }")
	_, cells = placesOfNames(t, "products", products, 3)
	wantSame(t, "products: cells", cells, 1+4+4+1+4) // a, b, the 0, and their products, over which s is not made
	fused, _ = fuse.Fuse(products)
	_, cells = placesOfNames(t, "products, fused", fused, 3)
	wantSame(t, "products, fused: cells", cells, 1+4+4+1+1) // a, b, the 0, and s

	with, _ := fuse.Fuse(systemOf(t, "node main(q: int^6) -> (w: int^6) { w = with(q, 1, 5); }"))
	places, _ = placesOfNames(t, "with", with, 2)
	wantSame(t, "w is made where q lies", places, []int{1, 1})
	with, _ = fuse.Fuse(systemOf(t, "node main(q: int^6) -> (w: int^6, z: int) { w = with(q, 1, 5); z = q[2: 0]; }"))
	spans, _ := live.Spans(with)
	places, _ = placesOfNames(t, "with, and q is used", with, 3)
	wantSame(t, "w is made where q lies, if it is not used later", places[0] == places[1], spans[0].To == spans[1].From)
}
