package image

import (
	"fmt"
	"testing"

	"loomwork/api"
	"loomwork/build"
	"loomwork/dead"
	"loomwork/emit"
	"loomwork/fuse"
	"loomwork/inst"
	"loomwork/mean"
	"loomwork/order"
	"loomwork/place"
	"loomwork/syntax"
	"loomwork/vm"
)

// systemOf is a text's program as a system, as inst makes it.
func systemOf(t *testing.T, text string) api.System {
	t.Helper()
	program, fault := syntax.Parse(text)
	if fault.Code != 0 {
		t.Fatalf("%s: Parse: %v", text, fault)
	}
	s, fault := inst.Make(program)
	if fault.Code != 0 {
		t.Fatalf("%s: inst.Make: %v", text, fault)
	}
	return s
}

// compiled is the image of a system that is sorted, trimmed, fused (or made its normal
// form alone), planned, built and emitted.
func compiled(t *testing.T, s api.System, toLoops func(api.System) (api.System, api.Fault)) api.Image {
	t.Helper()
	none := func(fault api.Fault) {
		if fault.Code != 0 {
			t.Fatalf("fault %v: %.900s", fault, plain(s))
		}
	}
	for _, goesOver := range []func(api.System) (api.System, api.Fault){order.Sort, dead.Trim, toLoops} {
		made, fault := goesOver(s)
		none(fault)
		s = made
	}
	p, fault := place.Make(s)
	none(fault)
	l, bools, fault := build.Make(s, p)
	none(fault)
	m, fault := emit.Make(l, bools)
	none(fault)
	return m
}

// rowFor is a row for a system.
func rowFor(d *dice, s api.System) []int64 {
	row := []int64{}
	for _, v := range s.In {
		for range mean.Width(s, []int{v}) {
			n := int64(d.below(12) - 3)
			if s.Vars[v].Elem == 'b' {
				n = int64(d.below(2))
			} else if d.below(8) == 0 {
				n = pick(d, someNumbers())
			}
			row = append(row, n)
		}
	}
	return row
}

// wantMeant asks that an image that has been bytes runs as the system means it.
func wantMeant(t *testing.T, what string, s api.System, b []byte) {
	t.Helper()
	m, fault := Decode(b)
	wantSame(t, what+": Decode's fault", fault, api.Fault{})
	machine, fault := vm.New(m)
	wantSame(t, what+": vm.New's fault", fault, api.Fault{})
	meaning, fault := mean.New(s)
	wantSame(t, what+": mean.New's fault", fault, api.Fault{})
	d := dice(len(b))
	for row := range 12 {
		in := rowFor(&d, s)
		got, fault := machine.Row(in)
		want, wantFault := meaning.Row(in)
		wantSame(t, fmt.Sprint(what, ": row ", row), []any{got, fault}, []any{want, wantFault})
	}
}

// What follows: images of programs from their texts, fused and not, there and back; and
// what was bytes runs as the program means it.
func TestPrograms(t *testing.T) {
	for _, text := range []string{
		"node main(x: int) -> (y: int) { y = x; }",
		"node main() -> (y: int) { y = 7; }",
		"node main() -> (y: int) { y = 999999999999999999; }",
		"node main(c: bool, d: bool^4) -> (x: int) { x = if fold(and, c, d) then 1 else 2; }",
		"node main(x: int, c: bool^3, z: int) -> (y: int) { y = x; }",
		"node main(x: int) -> (y: int) { y = x + pre(0, y); }",
		"node main(x: int) -> (y: int, z: int) { y = pre(x, pre(x, z)); z = x * 2 + y; }",
		"node main(x: int, z: int) -> (y: bool^3) { y = with(with(fill(x < z, 3), 1, x == z), 2, not (x < z)); }",
		"node main(c: bool^3, d: bool) -> (e: bool^3, f: bool) { e = map(xor, pre(c, e), fill(d, 3)); f = fold(or, d, e); }",
		"node main(x: int, y: int) -> (a: int, b: int, c: int, d: int, e: int) { a = x / y; b = x % y; c = min(x, y); d = max(x, y); e = x * y - x; }",
		"node main(a: int^5) -> (b: int^2, x: int) { b = slice(slice(a, 1, 4), 2, 2); x = a[7 : 9]; }",
		"node main(a: int^5, i: int) -> (x: int) { x = a[i : 9] + pre(0, x); }",
		"node main(a: int^3) -> (b: int^9) { b = cat(cat(a, pre(a, a)), scan(max, 0, a)); }",
		"node main(a: int^4, i: int) -> (b: int^4) { b = with(pre(a, b), i, fold(add, 1, a)); }",
		"node main(a: int^4, b: int^4) -> (s: int) { s = fold(add, 0, map(mul, a, b)); }",
		"node main(q: int^6) -> (w: int^6) { w = with(q, 1, 5); }",
		"node main(a: int^300) -> (b: int^300, s: int) { b = map(add, a, pre(scan(sub, 1, a), b)); s = fold(max, 0, b); }",
		"node main(a: bool^300, i: int) -> (c: bool^300, d: bool) { c = map(xor, a, pre(a, c)); d = c[i : a[i + 1 : true]]; }",
		"node f(x: int) -> (y: int) { y = x + pre(1, y); } node main(x: int) -> (y: int) { y = call f(x); }",
		"node f<n>(a: int^n) -> (b: int^n + 1) { b = cat(a, fill(0, 1)); } node main(a: int^2) -> (b: int^3, c: int^4) { b = call f<2>(a); c = call f<3>(map(mul, b, pre(b, b))); }",
	} {
		s := systemOf(t, text)
		for _, toLoops := range []func(api.System) (api.System, api.Fault){fuse.Fuse, fuse.Norm} {
			m := compiled(t, s, toLoops)
			b := encoded(t, text, m)
			wantSame(t, text, b, around(saidBetween(m)))
			wantDecoded(t, text, b, m)
			wantMeant(t, text, s, b)
		}
	}
}

// P19.1: a program's bytes, from its text.
func TestProgramBytes(t *testing.T) {
	m := compiled(t, systemOf(t, "node main(x: int, c: bool) -> (y: int) { y = if c then x + 100 else -x; }"), fuse.Fuse)
	wantSame(t, "the image", m, api.Image{Cells: 3, Regs: 5, Cost: 10, Put: []int{1, 2}, Bools: []int{2}, Get: []int{1}, Code: instructions(
		"load 2 2; load 3 1; num 4 100; add 3 3 4; load 4 1; neg 4 4; sel 2 3 4; store 2 1; num 2 1; store 2 0")})
	wantThereAndBack(t, "the bytes", m, "6 10 20 4 2 4 2 4 2 2 20 4 0 4 0 0 4 4 0 6 0 0 2 2 0 8 0 0 200 1 "+
		"14 2 6 6 8 0 4 0 8 0 0 2 12 26 8 8 0 0 16 0 4 6 8 0 8 0 4 0 0 2 2 0 4 0 0 2 8 0 4 0 0 0")
}
