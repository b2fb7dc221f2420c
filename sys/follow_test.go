package sys

import (
	"fmt"
	"strings"
	"testing"

	"loomwork/api"
	"loomwork/inst"
	"loomwork/syntax"
)

// wantMadeRight asks of a text's program that what inst.Make answers is a system.
func wantMadeRight(t *testing.T, text string) api.System {
	t.Helper()
	p, fault := syntax.Parse(text)
	if fault.Code != 0 {
		t.Fatalf("Parse(%.300q): fault %v", text, fault)
	}
	s, fault := inst.Make(p)
	if fault.Code != 0 {
		t.Fatalf("Make(%.300q): fault %v", text, fault)
	}
	wantRight(t, text, s)
	return s
}

// What follows from chapter 6: what inst.Make answers is a system.
func TestMadeIsSystem(t *testing.T) {
	texts := []string{
		"node main() -> (y: int) { y = 1; }",
		"node main(x: int) -> (y: int) { y = x + 1; }",
		"node main(x: bool, z: int) -> (y: bool, w: int) { y = x; w = -z; }",
		"node main(x: int) -> (y: int) { y = x + pre(0, y); }",
		"node main(x: int) -> (y: int) { var z: int; y = x + z; z = y - 1; }",
		"node main(a: int^4, b: int^4) -> (s: int) { s = fold(add, 0, map(mul, a, b)); }",
		"node main(a: int^3, c: bool) -> (y: int, z: bool) { var v: int^3; v = if c then cat(slice(a, 1, 2), fill(0, 1)) else with(a, 1, 2); " +
			"y = fold(add, 1, scan(mul, v[0 : 1], pre(a, map(neg, v)))); z = not c and y < 2 or true; }",
		"node f<n>(a: int^n) -> (b: int^n + 1) { b = cat(a, fill(7, 1)); } " +
			"node main(x: int^3) -> (y: int^5) { var z: int^4; z = call f<3>(x); y = call f<4>(z); }",
		"node main(a: int^300) -> (b: bool^300) { b = map(less, a, a); }",
		"node main(x: int, y: int, p: bool) -> (z: int, q: bool) { z = min(x * y, max(x / y, x % y)); q = x == y xor p; }",
	}
	for _, text := range texts {
		wantMadeRight(t, text)
	}
}

// The example of chapter 6.
func TestMadeExample(t *testing.T) {
	s := wantMadeRight(t, "node main(x: int) -> (y: int) { y = x + 1; }")
	if len(s.Vars) != 3 || len(s.Rules) != 2 || fmt.Sprint(Uses(s.Rules[0]), Uses(s.Rules[1])) != "[] [0 2]" {
		t.Errorf("%v", s)
	}
	s.Rules = s.Rules[1:]
	wantFault(t, "without its first rule", s, api.ErrNone, 0)
}

// As many variables as there may be.
func TestMadeMany(t *testing.T) {
	locals, equations := "", ""
	for i := range 13 {
		locals += fmt.Sprintf("var v%d: int; ", i)
		equations += fmt.Sprintf("v%d = %s1; ", i, strings.Repeat("-", 29))
	}
	s := wantMadeRight(t, "node main() -> (y: int) { "+locals+equations+"y = "+strings.Repeat("-", 9)+"1; }")
	if len(s.Vars) != api.MaxVars || len(s.Rules) != api.MaxRules {
		t.Errorf("%d variables, %d rules", len(s.Vars), len(s.Rules))
	}
}

// textThrower throws expressions as texts, over the names i0, i1, b0, b1 (scalars)
// and i3, b3 (arrays of three).
type textThrower struct{ dice }

// text is of that type: i, b, i3, b3.
func (th *textThrower) text(kind string, deep int) string {
	elem, isArray := kind[:1], len(kind) > 1
	if deep == 0 || th.below(5) == 0 {
		if isArray {
			return kind
		}
		return elem + pick(&th.dice, []string{"0", "1"})
	}
	of := func(kind string) string { return th.text(kind, deep-1) }
	op := map[string][]string{"i": {"add", "sub", "mul", "div", "mod", "min", "max"}, "b": {"and", "or", "xor"}}[elem]
	switch th.below(3) {
	case 0:
		return fmt.Sprintf("(if %s then %s else %s)", of("b"), of(kind), of(kind))
	case 1:
		return fmt.Sprintf("pre(%s, %s)", of(kind), of(kind))
	}
	if isArray {
		return pick(&th.dice, []string{
			fmt.Sprintf("map(%s, %s, %s)", pick(&th.dice, op), of(kind), of(kind)),
			fmt.Sprintf("scan(%s, %s, %s)", pick(&th.dice, op), of(elem), of(kind)),
			fmt.Sprintf("fill(%s, 3)", of(elem)),
			fmt.Sprintf("with(%s, %s, %s)", of(kind), of("i"), of(elem)),
			fmt.Sprintf("cat(slice(%s, 1, 2), slice(%s, %d, 1))", of(kind), of(kind), th.below(3)),
		})
	}
	return pick(&th.dice, []string{
		fmt.Sprintf("fold(%s, %s, %s)", pick(&th.dice, op), of(elem), of(elem+"3")),
		fmt.Sprintf("(%s)[%s : %s]", of(elem+"3"), of("i"), of(elem)),
		map[string]string{"i": "(-" + of("i") + ")", "b": "(" + of("i") + " < " + of("i") + ")"}[elem],
		map[string]string{"i": "(" + of("i") + " * 7)", "b": "(not " + of("b") + ")"}[elem],
	})
}

// What follows from chapter 6, of many programs.
func TestMadeThrown(t *testing.T) {
	right := 0
	for i := range 3000 {
		th := &textThrower{dice(i)}
		text := fmt.Sprintf("node main(i0: int, b0: bool, i3: int^3, b3: bool^3) -> (i1: int, b1: bool, c: int^3, d: bool^3) { i1 = %s; b1 = %s; c = %s; d = %s; }",
			th.text("i", 2), th.text("b", 2), th.text("i3", 2), th.text("b3", 2))
		p, fault := syntax.Parse(text)
		if fault.Code == api.ErrMany {
			continue // an expression with too many parts
		}
		if fault.Code != 0 {
			t.Fatalf("%s: %v", text, fault)
		}
		s, fault := inst.Make(p)
		if fault.Code != 0 {
			t.Fatalf("%s: %v", text, fault)
		}
		wantRight(t, text, s)
		right++
	}
	if right < 1000 {
		t.Errorf("%d programs alone were right", right)
	}
}
