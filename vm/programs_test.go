package vm

import (
	"fmt"
	"slices"
	"testing"

	"loomwork/api"
	"loomwork/build"
	"loomwork/code"
	"loomwork/dead"
	"loomwork/emit"
	"loomwork/fuse"
	"loomwork/inst"
	"loomwork/mean"
	"loomwork/order"
	"loomwork/place"
	"loomwork/syntax"
)

// systemOf is a text's program as a system, as inst makes it.
func systemOf(t *testing.T, text string) api.System {
	t.Helper()
	program, fault := syntax.Parse(text)
	if fault.Code != 0 {
		t.Fatalf("%s: Parse: %v", text, fault)
	}
	s, fault := inst.Make(program)
	if fault.Code != 0 {
		t.Fatalf("%s: inst.Make: %v", text, fault)
	}
	return s
}

// compiled is the image of a system that is sorted, trimmed, fused (or made its normal
// form alone), planned, built and emitted; or the first fault.
func compiled(s api.System, toLoops func(api.System) (api.System, api.Fault)) (api.Image, api.Fault) {
	for _, goesOver := range []func(api.System) (api.System, api.Fault){order.Sort, dead.Trim, toLoops} {
		var fault api.Fault
		if s, fault = goesOver(s); fault.Code != 0 {
			return api.Image{}, fault
		}
	}
	p, fault := place.Make(s)
	if fault.Code != 0 {
		return api.Image{}, fault
	}
	l, bools, fault := build.Make(s, p)
	if fault.Code != 0 {
		return api.Image{}, fault
	}
	return emit.Make(l, bools)
}

// rowFor is a row for a system. One in eight may have a fault.
func rowFor(d *dice, s api.System) []int64 {
	isRight := d.below(8) > 0
	row := []int64{}
	for _, v := range s.In {
		for range mean.Width(s, []int{v}) {
			n := int64(d.below(12) - 3)
			if isRight && s.Vars[v].Elem == 'b' {
				n = int64(d.below(2))
			} else if d.below(8) == 0 {
				n = pick(d, someNumbers())
			}
			row = append(row, n)
		}
	}
	if !isRight && d.below(3) == 0 {
		return row[:d.below(len(row)+1)]
	}
	return row
}

// wantMeant asks that an image's rows tell what the system means, each taking as many
// instructions as was reckoned, or have the same fault. It counts how often each code came.
func wantMeant(t *testing.T, what string, s api.System, m api.Image, rows [][]int64) map[int]int {
	t.Helper()
	meaning, fault := mean.New(s)
	wantSame(t, what+": mean.New's fault", fault, api.Fault{})
	wantSame(t, what+": Cost", m.Cost, code.Cost(m.Code))
	v, codes := begun(t, what, m), map[int]int{}
	for number, row := range rows {
		name := fmt.Sprint(what, ": row ", number)
		want, fault := meaning.Row(row)
		codes[fault.Code]++
		if fault.Code == 0 {
			wantTold(t, name, v, m.Cost, row, want)
		} else {
			wantNot(t, name, v, row, fault.Code, fault.At)
		}
	}
	return codes
}

// wantProgram compiles a text, fused and not, and asks that its images tell what it means.
func wantProgram(t *testing.T, text string, count int) {
	t.Helper()
	s, d := systemOf(t, text), dice(len(text))
	var rows [][]int64
	for range count {
		rows = append(rows, rowFor(&d, s))
	}
	for _, toLoops := range []func(api.System) (api.System, api.Fault){fuse.Fuse, fuse.Norm} {
		m, fault := compiled(s, toLoops)
		wantSame(t, text+": fault", fault, api.Fault{})
		if codes := wantMeant(t, text, s, m, rows); codes[0] < count/2 {
			t.Errorf("%s: %d rows of %d had no fault", text, codes[0], count)
		}
	}
}

// What follows: what was compiled is what was meant: each form of the language, and
// programs of several.
func TestPrograms(t *testing.T) {
	for _, text := range []string{
		"node main(x: int) -> (y: int) { y = x; }",
		"node main() -> (y: int) { y = 7; }",
		"node main() -> (y: int) { y = pre(1, y + y); }",
		"node main(c: bool) -> (y: bool) { y = c; }",
		"node main(c: bool, d: bool^4) -> (x: int) { x = if fold(and, c, d) then 1 else 2; }",
		"node main(x: int, c: bool^3, z: int) -> (y: int) { y = x; }",
		"node main(x: int) -> (y: int) { y = x + pre(0, y); }",
		"node main(x: int) -> (y: int, z: int) { y = pre(x, pre(x, z)); z = x * 2 + y; }",
		"node main(x: int, z: int) -> (y: bool^3) { y = with(with(fill(x < z, 3), 1, x == z), 2, not (x < z)); }",
		"node main(x: int, z: int) -> (a: bool, b: bool, c: bool) { a = x < 0 and z < 0; b = x < 0 or z < 0; c = x < 0 xor z < 0; }",
		"node main(c: bool, x: int) -> (y: int) { y = if not c then x * 3 else -x; }",
		"node main(c: bool^3, d: bool) -> (e: bool^3, f: bool) { e = map(xor, pre(c, e), fill(d, 3)); f = fold(or, d, e); }",
		"node main(x: int) -> (a: int^3) { a = fill(x + 1, 3); }",
		"node main(x: int, y: int) -> (a: int, b: int, c: int, d: int, e: int) { a = x / y; b = x % y; c = min(x, y); d = max(x, y); e = x * y - x; }",
		"node main(a: int^5) -> (b: int^2, x: int) { b = slice(slice(a, 1, 4), 2, 2); x = a[7 : 9]; }",
		"node main(a: int^5, i: int) -> (x: int) { x = a[i : 9] + pre(0, x); }",
		"node main(a: int^5, b: int^5) -> (c: int^5) { c = with(a, b[a[0 : 0] : 3], a[b[0 : 0] : -1]); }",
		"node main(a: int^3) -> (b: int^6) { b = cat(map(neg, a), a); }",
		"node main(a: int^3) -> (b: int^9) { b = cat(cat(a, pre(a, a)), scan(max, 0, a)); }",
		"node main(a: int^3) -> (b: int^3) { b = scan(add, 0, map(mul, a, fill(3, 3))); }",
		"node main(a: int^4, i: int) -> (b: int^4) { b = with(pre(a, b), i, fold(add, 1, a)); }",
		"node main(a: int^1) -> (b: int^1, c: int^2) { b = map(add, a, pre(a, b)); c = cat(a, b); }",
		"node main(a: int^4, b: int^4) -> (s: int) { s = fold(add, 0, map(mul, a, b)); }",
		"node main(q: int^6) -> (w: int^6) { w = with(q, 1, 5); }",
		"node main(a: int^300) -> (b: int^300, s: int) { b = map(add, a, pre(scan(sub, 1, a), b)); s = fold(max, 0, b); }",
		"node main(a: bool^300, i: int) -> (c: bool^300, d: bool) { c = map(xor, a, pre(a, c)); d = c[i : a[i + 1 : true]]; }",
		"node main(a: int^4, c: bool) -> (b: int^4) { b = if c then pre(a, b) else a; }",
		"node main(x: int) -> (y: int) { var unneeded: int^300; unneeded = fill(pre(x, x), 300); y = x; }",
		"node f(x: int) -> (y: int) { y = x + pre(1, y); } node main(x: int) -> (y: int) { y = call f(x); }",
		"node f<n>(a: int^n) -> (b: int^n + 1) { b = cat(a, fill(0, 1)); } node main(a: int^2) -> (b: int^3, c: int^4) { b = call f<2>(a); c = call f<3>(map(mul, b, pre(b, b))); }",
	} {
		wantProgram(t, text, 60)
	}
}

// What follows: the document's examples, from their texts to their rows.
func TestDocument(t *testing.T) {
	for text, rows := range map[string][]string{
		"node main(x: int) -> (y: int) { y = x + pre(0, y); }": {
			"3 > 3", "4 > 7", "! 17 -1", "5 > 12"},
		"node main(a: int^4, b: int^4) -> (s: int) { s = fold(add, 0, map(mul, a, b)); }": {
			"1 2 3 4 5 6 7 8 > 70", "1 2 3 4 5 6 7 ! 17 -1", "1 1 1 1 -1 -1 -1 -1 > -4"},
		"node main(q: int^6) -> (w: int^6) { w = with(q, 1, 5); }": {
			"1 2 3 4 5 6 > 1 5 3 4 5 6", "9 9 9 9 9 9 > 9 5 9 9 9 9"},
		"node main(x: int) -> (y: int) { y = pre(5, x); }": {
			"1 > 5", "2 > 1", "3 > 2"},
		"node main(c: bool^3, x: int) -> (y: int) { y = (if fold(or, false, c) then x else -x) + pre(100, y); }": {
			"0 0 2 1 ! 17 2", "0 3 2 1 ! 17 1", "0 0 0 5 > 95", "0 1 0 5 > 100", "-1 1 0 5 ! 17 0", "1 1 1 -7 > 93"},
		"node main(a: int^3, i: int) -> (x: int) { x = a[i : 99]; }": {
			"4 5 6 0 > 4", "4 5 6 2 > 6", "4 5 6 3 > 99", "4 5 6 -1 > 99", "4 5 6 - > 99", "4 5 6 + > 99"},
	} {
		m, fault := compiled(systemOf(t, text), fuse.Fuse)
		wantSame(t, text+": fault", fault, api.Fault{})
		wantRows(t, text, m, rows...)
	}
}

// 'Examples': with is made where q lies, and a fold over a map without an array between.
func TestDocumentCells(t *testing.T) {
	for text, cells := range map[string]int{
		"node main(a: int^4, b: int^4) -> (s: int) { s = fold(add, 0, map(mul, a, b)); }": 1 + 4 + 4 + 1 + 1,
		"node main(q: int^6) -> (w: int^6) { w = with(q, 1, 5); }":                        1 + 6,
	} {
		m, fault := compiled(systemOf(t, text), fuse.Fuse)
		wantSame(t, text+": fault", fault, api.Fault{})
		wantSame(t, text+": Cells", m.Cells, cells)
	}
}

// What follows: thrown programs, from their texts to their rows; what each row tells is
// what a Mean of the system tells, and no row has an ErrRange.
func TestThrownPrograms(t *testing.T) {
	codes, count := map[int]int{}, 0
	for i := range 3000 {
		text := thrownText(i)
		s, d := systemOf(t, text), dice(i)
		var rows [][]int64
		for range 8 {
			rows = append(rows, rowFor(&d, s))
		}
		for _, toLoops := range []func(api.System) (api.System, api.Fault){fuse.Fuse, fuse.Norm} {
			m, fault := compiled(s, toLoops)
			if fault.Code == api.ErrMany {
				continue // more cells or instructions than there may be
			}
			wantSame(t, text+": fault", fault, api.Fault{})
			for k, of := range wantMeant(t, text, s, m, rows) {
				codes[k] += of
			}
			count++
		}
		if t.Failed() {
			t.FailNow()
		}
	}
	if count < 5500 || codes[0] < 30000 || codes[api.ErrRow] < 2000 || len(codes) != 2 {
		t.Errorf("%d images, told: %v", count, codes)
	}
}

// Two that take turns over one image know nothing of each other, whatever they keep.
func TestProgramsTakeTurns(t *testing.T) {
	text := "node main(x: int, c: bool) -> (y: int) { y = if c then x else x + pre(0, y); }"
	m, _ := compiled(systemOf(t, text), fuse.Fuse)
	first, other := begun(t, text, m), begun(t, text, m)
	wantRow(t, text, first, "3 0 > 3")
	wantRow(t, text, other, "100 1 > 100")
	wantRow(t, text, first, "4 0 > 7")
	wantRow(t, text, other, "1 7 ! 17 1")
	wantRow(t, text, other, "1 0 > 101")
	wantRow(t, text, first, "5 0 > 12")
	wantSame(t, "what is kept", slices.Equal(first.Cells(), other.Cells()), false)
}
