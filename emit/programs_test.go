package emit

import (
	"slices"
	"testing"

	"loomwork/api"
	"loomwork/build"
	"loomwork/code"
	"loomwork/dead"
	"loomwork/fuse"
	"loomwork/inst"
	"loomwork/mean"
	"loomwork/order"
	"loomwork/place"
	"loomwork/syntax"
)

// systemOf is a text's program as a system that is sorted and trimmed.
func systemOf(t *testing.T, text string) api.System {
	t.Helper()
	program, fault := syntax.Parse(text)
	wantSame(t, text+": Parse's fault", fault, api.Fault{})
	s, fault := inst.Make(program)
	wantSame(t, text+": inst.Make's fault", fault, api.Fault{})
	s, fault = dead.Trim(s)
	wantSame(t, text+": Trim's fault", fault, api.Fault{})
	s, fault = order.Sort(s)
	wantSame(t, text+": Sort's fault", fault, api.Fault{})
	return s
}

// loopsOf are the loops of a system in its normal form, with which cells are truths.
func loopsOf(t *testing.T, text string, s api.System) (api.Loops, []int) {
	t.Helper()
	p, fault := place.Make(s)
	wantSame(t, text+": place.Make's fault", fault, api.Fault{})
	l, bools, fault := build.Make(s, p)
	wantSame(t, text+": build.Make's fault", fault, api.Fault{})
	return l, bools
}

// rowOf is a row for a system, truths being 0 or 1.
func rowOf(d *dice, s api.System) []int64 {
	var row []int64
	for _, v := range s.In {
		for range mean.Width(s, []int{v}) {
			n := int64(d.below(12) - 3)
			if s.Vars[v].Elem == 'b' {
				n = int64(d.below(2))
			} else if d.below(8) == 0 {
				n = pick(d, someNumbers())
			}
			row = append(row, n)
		}
	}
	return row
}

// What follows: programs' images tell what the programs mean, in their normal form and
// fused, each row taking as many instructions as was reckoned.
func TestPrograms(t *testing.T) {
	for _, text := range []string{
		"node main(x: int) -> (y: int) { y = x + pre(0, y); }",
		"node main(x: int) -> (y: int, z: int) { y = pre(x, pre(x, z)); z = x * 2 + y; }",
		"node main(c: bool, x: int) -> (y: int) { y = if not c then x * 3 else -x; }",
		"node main(c: bool^3, d: bool) -> (e: bool^3, f: bool) { e = map(xor, pre(c, e), fill(d, 3)); f = fold(or, d, e); }",
		"node main(x: int) -> (a: int^3) { a = fill(x + 1, 3); }",
		"node main(x: int, y: int) -> (a: int, b: int) { a = x / y; b = x % y; }",
		"node main(a: int^5) -> (b: int^2, x: int) { b = slice(slice(a, 1, 4), 2, 2); x = a[7 : 9]; }",
		"node main(a: int^5, i: int) -> (x: int) { x = a[i : 9] + pre(0, x); }",
		"node main(a: int^3) -> (b: int^6) { b = cat(map(neg, a), a); }",
		"node main(a: int^3) -> (b: int^9) { b = cat(cat(a, pre(a, a)), scan(max, 0, a)); }",
		"node main(a: int^3) -> (b: int^3) { b = scan(add, 0, map(mul, a, fill(3, 3))); }",
		"node main(a: int^4, i: int) -> (b: int^4) { b = with(pre(a, b), i, fold(add, 1, a)); }",
		"node main(a: int^1) -> (b: int^1, c: int^2) { b = map(add, a, pre(a, b)); c = cat(a, b); }",
		"node main(a: int^4, b: int^4) -> (s: int) { s = fold(add, 0, map(mul, a, b)); }",
		"node main(q: int^6) -> (w: int^6) { w = with(q, 1, 5); }",
		"node f(x: int) -> (y: int) { y = x + pre(1, y); } node main(x: int) -> (y: int) { y = call f(x); }",
	} {
		s := systemOf(t, text)
		normal, fault := fuse.Norm(s)
		wantSame(t, text+": Norm's fault", fault, api.Fault{})
		fused, fault := fuse.Fuse(s)
		wantSame(t, text+": Fuse's fault", fault, api.Fault{})
		for _, of := range []api.System{normal, fused} {
			l, bools := loopsOf(t, text, of)
			wantSame(t, text+": held against the chapter", holdAgainstSaid(t, text, l, bools), 0)
			wantMeant(t, text, s, made(t, text, l, bools...))
		}
	}
}

// wantMeant asks that an image tells what the system means, many rows long.
func wantMeant(t *testing.T, text string, s api.System, m api.Image) {
	t.Helper()
	meaning, fault := mean.New(s)
	wantSame(t, text+": mean.New's fault", fault, api.Fault{})
	r, d := newRunner(m), dice(len(text))
	for number := range 50 {
		row := rowOf(&d, s)
		want, fault := meaning.Row(row)
		wantSame(t, text+": Row's fault", fault, api.Fault{})
		if got := r.row(row); !slices.Equal(got, want) {
			t.Fatalf("%s: row %d, %v: %v, want %v", text, number, row, got, want)
		}
		wantSame(t, text+": done", r.done, (number+1)*code.Cost(m.Code))
	}
	wantSame(t, text+": astray", r.astray, 0)
}
