package dead

import (
	"fmt"
	"slices"
	"testing"

	"loomwork/api"
	"loomwork/inst"
	"loomwork/mean"
	"loomwork/order"
	"loomwork/syntax"
)

// thrownRow is a row that a system may be given.
func thrownRow(d *dice, s api.System) []int64 {
	row := []int64{}
	for _, v := range s.In {
		for range max(1, s.Vars[v].N) {
			if s.Vars[v].Elem == 'b' {
				row = append(row, int64(d.below(2)))
			} else {
				row = append(row, pick(d, []int64{-3, -1, 0, 1, 2, 3, 5, 100, least, greatest}))
			}
		}
	}
	return row
}

// wantSameRows gives a system and the trimmed one the same rows, some of the later
// ones wrong, and asks that they tell the same; it answers how many later rows told something
// else than the first one.
func wantSameRows(t *testing.T, what string, s api.System, rows int) int {
	t.Helper()
	trimmed, fault := Trim(s)
	wantSame(t, what+": Trim's fault", fault, api.Fault{})
	full, fault := mean.New(s)
	wantSame(t, what+": New's fault", fault, api.Fault{})
	less, fault := mean.New(trimmed)
	wantSame(t, what+": New's fault of what is trimmed", fault, api.Fault{})
	if t.Failed() {
		t.Fatalf("%s: %.2000s", what, plain(s))
	}
	d, others := dice(len(s.Vars)), 0
	var first []int64
	for i := range rows {
		in := thrownRow(&d, s)
		if i > 0 && d.below(5) == 0 {
			in = append(in, 7)
		}
		want, fault := full.Row(in)
		got, other := less.Row(in)
		wantSame(t, fmt.Sprint(what, ", row ", i), []any{got, other}, []any{want, fault})
		if i == 0 {
			first = want
		} else if fault.Code == 0 && !slices.Equal(first, want) {
			others++
		}
	}
	return others
}

// What follows: nothing is missed: a system and the trimmed one tell the same of
// rows, in the first one and in later ones.
func TestSameRows(t *testing.T) {
	seen, others := 0, 0
	for i := range 10000 {
		s := thrown(i, 12)
		if _, fault := order.Sort(s); fault.Code != 0 {
			continue
		}
		others += wantSameRows(t, fmt.Sprint("thrown ", i), s, 6)
		seen++
		if t.Failed() {
			t.Fatalf("%.2000s", plain(s))
		}
	}
	if seen < 5000 || others < 5000 {
		t.Errorf("%d systems, %d rows that told something else", seen, others)
	}
}

// What follows: what a QPre tells in later rows is not missed.
func TestSameLaterRows(t *testing.T) {
	for _, text := range []string{"0<1,2 1: 2:3,0 4:0 >0", "0<4,1 1<4,2 2<4,3 5:0 3:4 >0", "0:4,1 1<2,0 2: 3:1 >0", "0<2,1 1:0,2 3:0 >0,1"} {
		if others := wantSameRows(t, text, read(text), 8); others == 0 {
			t.Errorf("%s: all rows told the same", text)
		}
	}
}

// P10: what cannot be sorted for what is not needed alone can be sorted when that is
// gone.
func TestRoundGoes(t *testing.T) {
	s := read("0:1 1:0 2:3 4:1 >2")
	_, fault := order.Sort(s)
	wantSame(t, "Sort's fault", fault, api.Fault{Code: api.ErrRound, At: 0})
	wantNeeded(t, "a round", s, 2)
	trimmed, _ := Trim(s)
	wantSameRows(t, "a round that is gone", trimmed, 3)
}

// systemOf is a text's program as a system.
func systemOf(t *testing.T, text string) api.System {
	t.Helper()
	p, fault := syntax.Parse(text)
	if fault.Code != 0 {
		t.Fatalf("Parse(%q): fault %v", text, fault)
	}
	s, fault := inst.Make(p)
	if fault.Code != 0 {
		t.Fatalf("Make(%q): fault %v", text, fault)
	}
	return s
}

// P10: programs in which something is not needed, and some in which all is.
func TestPrograms(t *testing.T) {
	gone := map[string]int{
		"node main(x: int) -> (y: int) { y = x + pre(0, y); }":                                                                   0,
		"node main(x: int) -> (y: int) { var z: int; y = x; z = x; }":                                                            1,
		"node main(x: int) -> (y: int) { var z: int; z = pre(x, z); y = pre(x, y); }":                                            1,
		"node main(x: int) -> (y: int) { var z: int; z = pre(x, y); y = pre(x, z); }":                                            0,
		"node main(a: int^4, b: int^4) -> (s: int) { s = fold(add, 0, map(mul, a, b)); }":                                        0,
		"node main(a: int^4, b: int^4) -> (s: int) { var p: int^4; p = map(mul, a, b); s = fold(add, 0, a); }":                   1,
		"node f(x: int) -> (y: int, z: int) { y = x; z = x; } node main(x: int) -> (y: int) { var u: int; y, u = call f(x); }":   1,
		"node f(x: int) -> (y: int, z: int) { y = x; z = y; } node main(x: int) -> (y: int) { var u: int; u, y = call f(x); }":   0,
		"node main(c: bool, a: int^3) -> (b: int^3, d: bool) { var e: bool; b = with(a, 1, 5); d = not c; e = pre(c, e or d); }": 2,
	}
	for text, count := range gone {
		s := systemOf(t, text)
		needed := holdAgainstSaid(t, text, s)
		wantSame(t, text+": how many are gone", len(s.Rules)-len(needed), count)
		wantSameRows(t, text, s, 6)
	}
}
