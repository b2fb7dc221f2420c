package order

import (
	"fmt"
	"reflect"
	"slices"
	"strings"
	"testing"

	"loomwork/api"
	"loomwork/inst"
	"loomwork/syntax"
	"loomwork/sys"
)

// anything is a system of whatever numbers, with lists that may be nil.
func anything(d *dice) api.System {
	number := func() int {
		if d.below(3) > 0 {
			return d.below(18)
		}
		return pick(d, []int{-1, -2, 300, 301, 400, 1 << 32, 1<<32 + 1, greatest, least, least + 1})
	}
	ints := func() []int {
		var list []int
		for range d.below(5) {
			list = append(list, number())
		}
		return list
	}
	s := api.System{In: ints(), Out: ints()}
	for range d.below(5) {
		s.Vars = append(s.Vars, api.Var{Elem: byte(pick(d, []int{'i', 'b', 0, 255})), N: number()})
	}
	for range d.below(4) {
		r := api.Rule{Op: number(), K: number(), Out: number(), N: int64(number()), A: ints()}
		for range d.below(4) {
			r.E = append(r.E, api.Push{Op: number(), K: number(), V: number(), N: int64(number())})
		}
		s.Rules = append(s.Rules, r)
	}
	return s
}

// slip puts some number at one place of a system, or takes one of In away.
func slip(d *dice, s *api.System) {
	if d.below(4) == 0 {
		s.In = s.In[1:]
		return
	}
	number := pick(d, []int{-1, 0, 1, 2, 3, 5, 13, 14, 17, 301, greatest, least})
	places := []*int{new(int)}
	for i := range s.In {
		places = append(places, &s.In[i])
	}
	for i := range s.Out {
		places = append(places, &s.Out[i])
	}
	for i := range s.Rules {
		r := &s.Rules[i]
		r.A, r.E = slices.Clone(r.A), slices.Clone(r.E)
		places = append(append(places, &r.Op, &r.Out), placesOf(r)...)
	}
	*pick(d, places) = number
}

// P1: no call panics, whatever it is given, and what is handed in stays; what is
// no system has sys.Check's fault.
func TestAnything(t *testing.T) {
	d := dice(7)
	faults := map[int]int{}
	for i := range 40000 {
		s := anything(&d)
		if i%2 == 0 {
			s = thrown(i, 6)
			slip(&d, &s)
		}
		kept := copied(s, 3)
		fault := sys.Check(s)
		faults[fault.Code]++
		if fault.Code != 0 {
			wantFault(t, fmt.Sprint("thrown ", i), s, fault.Code, fault.At)
		} else {
			holdAgainstSaid(t, fmt.Sprint("thrown ", i), s)
		}
		for _, r := range s.Rules {
			needs := Needs(r)
			if !slices.IsSorted(needs) || len(slices.Compact(slices.Clone(needs))) != len(needs) {
				t.Fatalf("%v does not rise", needs)
			}
			wantSame(t, "Own", Own(r), r)
		}
		if plain(s) != plain(kept) || t.Failed() {
			t.Fatalf("thrown %d: %v, it was %v", i, s, kept)
		}
	}
	for _, code := range []int{0, api.ErrRange, api.ErrTwice, api.ErrForm, api.ErrNone, api.ErrType, api.ErrSize} {
		if faults[code] < 100 {
			t.Errorf("the code %d was told %d times alone", code, faults[code])
		}
	}
}

// P1: every call ends: lists that are long.
func TestEndless(t *testing.T) {
	long := make([]int, 1<<20)
	wantFault(t, "In", api.System{Vars: numbers(1), In: long}, api.ErrMany, -1)
	wantFault(t, "rules", api.System{Rules: make([]api.Rule, 1<<18)}, api.ErrMany, -1)
	wantFault(t, "A", api.System{Vars: numbers(1), Rules: []api.Rule{{Op: api.QPre, A: long}}}, api.ErrForm, 0)
	steps := slices.Repeat([]api.Push{sca(0)}, 1<<20)
	s := api.System{Vars: numbers(2), Rules: []api.Rule{{Op: api.QCopy, Out: 0, A: []int{1}, E: steps}, {Op: api.QNum, Out: 1, E: steps}}}
	got, fault := Sort(s)
	if fault.Code != 0 || len(got.Rules) != 2 || got.Rules[0].Op != api.QNum || !slices.Equal(got.Rules[0].E, steps) || !slices.Equal(got.Rules[1].E, steps) {
		t.Errorf("rules with steps that they do not have: fault %v", fault)
	}
}

// Lists may be nil or empty, and are the same either way.
func TestEmptyLists(t *testing.T) {
	for _, text := range []string{"0:1 1:", "0:1 1:0", "0:0", "0: 1:0"} {
		s, other := read(text), read(text)
		for i := range s.Rules {
			s.Rules[i].A, other.Rules[i].A = nil, []int{}
		}
		s.In, s.Out, other.In, other.Out = nil, nil, []int{}, []int{}
		wantSame(t, text, asked(s), asked(other))
	}
}

// systemOf is a text's program as a system.
func systemOf(t *testing.T, text string) api.System {
	t.Helper()
	p, fault := syntax.Parse(text)
	if fault.Code != 0 {
		t.Fatalf("Parse(%q): fault %v", text, fault)
	}
	s, fault := inst.Make(p)
	if fault.Code != 0 {
		t.Fatalf("Make(%q): fault %v", text, fault)
	}
	return s
}

// The document's examples, and some more programs.
func TestPrograms(t *testing.T) {
	sorted := []string{
		"node main(x: int) -> (y: int) { y = x + pre(0, y); }",
		"node main(x: int) -> (y: int) { var z: int; y = z + 1; z = x * 2; }",
		"node main(a: int^4, b: int^4) -> (s: int) { s = fold(add, 0, map(mul, a, b)); }",
		"node f(x: int) -> (y: int) { y = x + pre(1, y); } node main(x: int) -> (z: int) { var y: int; z = y * y; y = call f(x); }",
		"node main() -> (a: int, b: int) { a = pre(0, b); b = pre(1, a + b); }",
	}
	for _, text := range sorted {
		s := systemOf(t, text)
		if h := holdAgainstSaid(t, text, s); len(h.left) > 0 {
			t.Errorf("%s: a round %v", text, h.round)
		}
	}
	rounds := []string{
		"node main(x: int) -> (y: int) { var z: int; y = x + z; z = y - 1; }",
		"node main(x: int) -> (y: int) { y = x + y; }",
		"node main(x: int) -> (y: int) { y = pre(y, x); }",
		"node main(c: bool) -> (a: int, b: int) { a = if c then b else 0; b = if c then 0 else a; }",
		"node f(x: int) -> (y: int) { y = x + 1; } node main(x: int) -> (y: int) { y = call f(y); }",
	}
	for _, text := range rounds {
		s := systemOf(t, text)
		if h := holdAgainstSaid(t, text, s); len(h.left) == 0 {
			t.Errorf("%s: no round", text)
		}
	}
	s := systemOf(t, strings.ReplaceAll(rounds[0], "y - 1", "pre(x, y)"))
	holdAgainstSaid(t, "broken by pre", s)
	if got, fault := Sort(s); fault.Code != 0 || reflect.DeepEqual(got, api.System{}) {
		t.Errorf("broken by pre: %v, fault %v", got, fault)
	}
}
