package inst

import (
	"fmt"
	"strings"
	"testing"

	"loomwork/api"
)

// padding is locals and equations that come to so many variables, and as many
// rules.
func padding(count int) string {
	text := ""
	for i := 0; count > 0; i++ {
		parts := min(count, api.MaxTerms)
		text += fmt.Sprintf("var p%d: int; p%d = %s0; ", i, i, strings.Repeat("-", parts-1))
		count -= parts
	}
	return text
}

// wantMost asks of a text with a # in it, which is padding, that it may come to
// just MaxVars variables.
func wantMost(t *testing.T, text string) {
	t.Helper()
	padded := func(count int) string { return strings.Replace(text, "#", padding(count), 1) }
	room := api.MaxVars - len(madeOf(t, padded(0)).Vars)
	for _, count := range []int{room - 1, room} {
		if s := madeOf(t, padded(count)); len(s.Vars) != api.MaxVars-room+count || len(s.Rules) != len(s.Vars)-len(s.In) {
			t.Errorf("%s: %d variables, and %d rules", text, len(s.Vars), len(s.Rules))
		}
	}
	for _, count := range []int{room + 1, room + 2, room + 30, 400} {
		wantWrong(t, padded(count), api.ErrMany, -1)
	}
}

// P6: MaxVars variables, and MaxRules rules, may come, and not one more, wherever
// the last one comes.
func TestMost(t *testing.T) {
	wantMost(t, "node main() -> (y: int) { # y = 0; }")
	wantMost(t, "node main() -> (y: int) { y = 0; # }")
	wantMost(t, "node main() -> (y: int) { # y = 1 + 2; }")
	wantMost(t, "node main(a: int^3, b: bool) -> (y: int^1) { # y = fill(if b then a[0 : 1] else fold(mul, 2, map(neg, a)), 1); }")
	wantMost(t, "node f(a: int, b: int) -> (c: int) { c = a; } node main() -> (y: int) { # y = call f(1, -2); }")
	wantMost(t, "node f(a: int, b: int) -> (c: int) { var d: int; var e: int; c = a; d = e; e = c; } node main(x: int) -> (y: int) { # y = call f(x, x); }")
	wantMost(t, "node f(a: int, b: int) -> (c: int) { c = a + 1; } node main(x: int) -> (y: int) { # y = call f(x, x); }")
	wantMost(t, "node f(a: int) -> (c: int) { # c = a; } node g(a: int) -> (c: int) { c = call f(a); } node main(x: int) -> (y: int) { y = call g(x); }")
	inputs := ""
	for i := range api.MaxDecls {
		inputs += fmt.Sprintf(", x%d: int^300", i)
	}
	wantMost(t, "node main("+inputs[2:]+") -> (y: int) { # y = 0; }")
}

// P6: a rule more than MaxRules. (Each rule has a variable of its own, so that
// there are never more of them; the variables' fault is the same one.)
func TestMostRules(t *testing.T) {
	g := &growth{}
	for i := range api.MaxRules {
		g.rule(number(i, 0))
	}
	if got := caught(func() { g.rule(number(0, 0)) }); got != (api.Fault{Code: api.ErrMany, At: -1}) {
		t.Errorf("fault %v", got)
	}
	if len(g.rules) != api.MaxRules {
		t.Errorf("%d rules", len(g.rules))
	}
}

// room is the text of a program whose main has room for so many variables more
// when the equation comes, having the inputs x, a and b and the outputs y and z.
func room(count int, equation string) string {
	return "node f<n>(s: int) -> (t: int) { var v: int; var w: int^n; v = s; t = v; w = fill(s, n); } " + // equations 0 to 2
		"node main(x: int, a: int^5, b: int^150) -> (y: int, z: int^2) { " +
		padding(api.MaxVars-5-count) + equation + " }"
}

// P6: where a variable is too many, and a size is wrong, the first that comes is
// told: parts, then sizes, then the new variable.
func TestManyOrSize(t *testing.T) {
	const none, many, size = 0, api.ErrMany, api.ErrSize
	for _, c := range []struct {
		equation string
		codes    []int // with no room, with room for one, and so on
	}{
		{"y = fold(add, 0, fill(-x, 300));", []int{many, many, many, none}},
		{"y = fold(add, 0, fill(-x, 301));", []int{many, many, size, size}},
		{"y = fold(add, 0, slice(a, 2, 3));", []int{many, many, none}},
		{"y = fold(add, 0, slice(a, 3, 3));", []int{many, size, size}},
		{"y = fold(add, 0, slice(a, 0 - 1, 3));", []int{many, size, size}},
		{"y = fold(add, 0, cat(b, b));", []int{many, many, none}},
		{"y = fold(add, 0, slice(cat(b, b), 300, 1));", []int{many, many, size, size}},
		{"y = fold(add, 0, cat(cat(b, a), b));", []int{many, many, size, size}},
		{"y = fold(add, 0, cat(b, cat(a, b)));", []int{many, many, size, size}},
		{"y = fold(add, 0, cat(cat(b, b), fill(1, 1)));", []int{many, many, many, many, size, size}},
		{"y = fold(add, fill(-x, 301)[1 : 2], fill(x, 301));", []int{many, size, size}},
	} {
		for count, code := range c.codes {
			wantRoom(t, count, c.equation+" z = z;", code)
		}
	}
	for count, code := range []int{many, none, none} {
		wantRoom(t, count, "z = slice(map(neg, a), 3, 2); y = 0;", code)
	}
	for count, code := range []int{many, size, size} {
		wantRoom(t, count, "z = slice(map(neg, a), 4, 2); y = 0;", code)
	}
}

// wantRoom asks for a fault, or none, of an equation that has so much room.
func wantRoom(t *testing.T, count int, equation string, code int) {
	t.Helper()
	text := room(count, equation)
	at := map[int]int{
		0:           0,
		api.ErrMany: -1,
		api.ErrSize: 3 + strings.Count(text, "var p"), // the equation's number
	}
	wantWrong(t, text, code, at[code])
}

// P6: of a call: its sizes, then its expressions, then the node's sizes, then its
// locals, then its equations.
func TestManyOrSizeOfCalls(t *testing.T) {
	const none, many, size = 0, api.ErrMany, api.ErrSize
	for _, c := range []struct {
		equation string
		codes    []int
	}{
		{"y = call f<301>(0);", []int{size, size, size, size}},
		{"y = call f<1>(0);", []int{many, many, many, none}},
		{"y = call f<1>(x);", []int{many, many, none}},
		{"y = call f<1>(fill(x, 301)[-x : 0]);", []int{size, size}},
		{"y = call f<1>(fill(-x, 301)[0 : 0]);", []int{many, size, size}},
	} {
		for count, code := range c.codes {
			wantRoom(t, count, c.equation+" z = z;", code)
		}
	}
	wantWrong(t, room(0, "y = call f<0>(0); z = z;"), api.ErrMany, -1)
	for count := 1; count < 5; count++ {
		wantWrong(t, room(count, "y = call f<0>(0); z = z;"), api.ErrSize, -2)
	}
	for count := range 4 {
		wantWrong(t, room(count, "y = call f<0>(x); z = z;"), api.ErrSize, -2)
	}
}

// levels is a node f0, nodes each of which calls the one ahead so many times, and
// main that calls the last one.
func levels(deepest string, times int) string {
	text := deepest
	for level := 1; level < api.MaxNodes-1; level++ {
		text += fmt.Sprintf("node f%d(x: int) -> (y: int) { y = call f%d(x); ", level, level-1)
		for i := range times - 1 {
			text += fmt.Sprintf("var v%d: int; v%d = call f%d(x); ", i, i, level-1)
		}
		text += "} "
	}
	return text + "node main(x: int) -> (y: int) { y = call f8(x); }"
}

// P1: calls that would come to far more than there may be end, and soon.
func TestCallsThatMultiply(t *testing.T) {
	const f0 = "node f0(x: int) -> (y: int) { y = -x; } "
	wantMade(t, levels(f0, 1), 1, 1, "i i", rule(api.QUn, api.KNeg, 1, 0))
	if s := madeOf(t, strings.Replace(levels(f0, 2), "f8(x); }", "f7(x); }", 1)); len(s.Vars) != 129 || len(s.Rules) != 128 {
		t.Errorf("%d variables, and %d rules", len(s.Vars), len(s.Rules))
	}
	if s := madeOf(t, levels(f0, 2)); len(s.Vars) != 257 || len(s.Rules) != 256 {
		t.Errorf("%d variables, and %d rules", len(s.Vars), len(s.Rules))
	}
	for _, times := range []int{3, 20, 25} {
		wantWrong(t, levels(f0, times), api.ErrMany, -1)
		wantWrong(t, levels("node f0(x: int) -> (y: int) { y = fold(add, 0, fill(1, 301)); } ", times), api.ErrSize, 0)
	}
}
