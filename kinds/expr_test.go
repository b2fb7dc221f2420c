package kinds

import (
	"fmt"
	"slices"
	"testing"

	"loomwork/api"
)

// kind is a type with its size reckoned: a number, so many n, so many m.
type kind struct {
	elem    byte
	isArray bool
	n       [3]int
}

// written is a kind with a text for it.
type written struct {
	text string
	kind
}

var (
	none    = [3]int{0, 0, 0}
	justN   = [3]int{0, 1, 0}
	nAndOne = [3]int{1, 1, 0}
	anInt   = kind{elem: 'i'}
	aBool   = kind{elem: 'b'}
)

// inputs are of every type that matters, some in another writing.
var inputs = []written{
	{"int", anInt},
	{"bool", aBool},
	{"int^n", kind{'i', true, justN}},
	{"bool^n", kind{'b', true, justN}},
	{"int^m + 3*n - 2*n - m", kind{'i', true, justN}},
	{"bool^0*m + n + 0", kind{'b', true, justN}},
	{"int^1 + n", kind{'i', true, nAndOne}},
	{"int^0", kind{'i', true, none}},
	{"bool^n - n", kind{'b', true, none}},
}

// outputs are the inputs' types, and sums of two of their sizes.
var outputs = append([]written{
	{"int^2*n", kind{'i', true, [3]int{0, 2, 0}}},
	{"bool^n + n", kind{'b', true, [3]int{0, 2, 0}}},
	{"int^n + 1 + n", kind{'i', true, [3]int{1, 2, 0}}},
	{"int^n + 1 + n + 1", kind{'i', true, [3]int{2, 2, 0}}},
	{"int^7 - m", kind{'i', true, [3]int{7, 0, -1}}},
	{"bool^7 - m", kind{'b', true, [3]int{7, 0, -1}}},
}, inputs...)

func input(at int) api.Expr { return api.Expr{Op: api.XName, Name: fmt.Sprint("a", at)} }

// withInputs is a program of a node that has them all, and makes y.
func withInputs(t *testing.T, y string) api.Program {
	list := ""
	for i, w := range inputs {
		list += fmt.Sprintf(", a%d: %s", i, w.text)
	}
	return parsed(t, sized(list[2:], "y: "+y, "y = 0;"))
}

// wantKind asks for the fault that an expression comes to, or for its kind.
func wantKind(t *testing.T, targets []api.Program, e api.Expr, want kind, code int) {
	t.Helper()
	for i, p := range targets {
		p.Nodes[0].Eqs[0].E[0] = e
		wanted := code
		if code == 0 && outputs[i].kind != want {
			wanted = api.ErrType
		}
		if fault := Check(p); fault != (api.Fault{Code: wanted}) {
			t.Fatalf("%v as %s: fault %v, want code %d", e, outputs[i].text, fault, wanted)
		}
		if code != 0 {
			return // whatever y is
		}
	}
}

// eachRow hands over each row of so many inputs, with their kinds.
func eachRow(count int, do func(l []api.Expr, kinds []kind)) {
	rows := 1
	for range count {
		rows *= len(inputs)
	}
	for row := range rows {
		l, kinds := make([]api.Expr, count), make([]kind, count)
		for i := range count {
			at := row % len(inputs)
			row /= len(inputs)
			l[i], kinds[i] = input(at), inputs[at].kind
		}
		do(l, kinds)
	}
}

// said is what the chapter's words say of an expression of parts of those kinds.
func said(op, k int, l []kind) (kind, int) {
	takes, makes, n := Op(k)
	scalar := func(at int, elem byte) bool { return l[at] == kind{elem: elem} }
	array := func(at int, elem byte) bool { return l[at].isArray && l[at].elem == elem }
	is := false
	var what kind
	switch op {
	case api.XUn:
		is, what = scalar(0, takes), kind{elem: makes}
	case api.XBin:
		is, what = scalar(0, takes) && scalar(1, takes), kind{elem: makes}
	case api.XMap:
		if len(l) != n {
			return kind{}, api.ErrCount
		}
		is = array(0, takes) && array(len(l)-1, takes) && l[0].n == l[len(l)-1].n
		what = kind{makes, true, l[0].n}
	case api.XFold:
		is, what = n == 2 && takes == makes && scalar(0, takes) && array(1, takes), l[0]
	case api.XScan:
		is, what = n == 2 && takes == makes && scalar(0, takes) && array(1, takes), l[1]
	case api.XIf:
		is, what = scalar(0, 'b') && l[1] == l[2], l[1]
	case api.XFill, api.XSlice:
		is, what = l[0].isArray == (op == api.XSlice), kind{l[0].elem, true, [3]int{7, 0, -1}}
	case api.XIndex:
		is, what = l[0].isArray && scalar(1, 'i') && scalar(2, l[0].elem), kind{elem: l[0].elem}
	case api.XWith:
		is, what = l[0].isArray && scalar(1, 'i') && scalar(2, l[0].elem), l[0]
	case api.XCat:
		is, what = array(0, 'i') && array(1, 'i') || array(0, 'b') && array(1, 'b'), kind{l[0].elem, true, l[0].n}
		for i, more := range l[1].n {
			what.n[i] += more
		}
	case api.XPre:
		is, what = l[0] == l[1], l[0]
	}
	if !is {
		return kind{}, api.ErrType
	}
	return what, 0
}

// P5.1: every kind of expression, with every operator that it may have, of
// every row of types, made a name of every type.
func TestExpressions(t *testing.T) {
	var targets []api.Program
	for _, w := range outputs {
		targets = append(targets, withInputs(t, w.text))
	}
	sevenLessM := sum(-1, "m", 7, "")
	sizes := map[int][]api.Size{api.XFill: {sevenLessM}, api.XSlice: {sum(1, ""), sevenLessM}}
	right := map[int]int{}
	forms := []struct{ op, parts, first, last int }{
		{api.XUn, 1, api.KNeg, api.KNot}, {api.XBin, 2, api.KAdd, api.KXor}, {api.XIf, 3, 0, 0},
		{api.XMap, 1, api.KAdd, api.KNot}, {api.XMap, 2, api.KAdd, api.KNot},
		{api.XFold, 2, api.KAdd, api.KNot}, {api.XScan, 2, api.KAdd, api.KNot},
		{api.XFill, 1, 0, 0}, {api.XIndex, 3, 0, 0}, {api.XWith, 3, 0, 0}, {api.XSlice, 1, 0, 0},
		{api.XCat, 2, 0, 0}, {api.XPre, 2, 0, 0},
	}
	for _, f := range forms {
		for k := f.first; k <= f.last; k++ {
			eachRow(f.parts, func(l []api.Expr, kinds []kind) {
				want, code := said(f.op, k, kinds)
				wantKind(t, targets, api.Expr{Op: f.op, K: k, S: sizes[f.op], L: l}, want, code)
				if code == 0 {
					right[f.op]++
				}
			})
		}
	}
	for op := api.XUn; op <= api.XPre; op++ {
		if right[op] == 0 {
			t.Errorf("no expression of the kind %d is right", op)
		}
	}
	for i, w := range inputs {
		wantKind(t, targets, input(i), w.kind, 0)
	}
	wantKind(t, targets, api.Expr{Op: api.XNum}, anInt, 0)
	wantKind(t, targets, api.Expr{Op: api.XNum, N: api.MaxNum - 1}, anInt, 0)
	wantKind(t, targets, api.Expr{Op: api.XTruth}, aBool, 0)
	wantKind(t, targets, api.Expr{Op: api.XTruth, N: 1}, aBool, 0)
}

// P5.1: names that are declared, and that are not.
func TestExpressionNames(t *testing.T) {
	node := func(e string) string { return sized("a: int", "y: int", "var v: int; v = 0; y = "+e+";") }
	for _, name := range []string{"a", "y", "v"} {
		wantRight(t, node(name))
		wantRight(t, node("-fold(add, "+name+", fill(pre(0, "+name+"), n))"))
	}
	for _, name := range []string{"n", "m", "f", "main", "o", "q"} {
		wantWrong(t, node(name), api.ErrNone, 1)
		wantWrong(t, node("1 + (2 - "+name+")"), api.ErrNone, 1)
		wantWrong(t, node("fold(add, 0, fill("+name+", n))"), api.ErrNone, 1)
	}
	wantRight(t, sized("", "y: int", "var v: int; y = v; v = y;")) // that it is a round is not told here
}

// P5.1: sizes within expressions: their names, then their range.
func TestExpressionSizes(t *testing.T) {
	for size, code := range map[string]int{
		"n": 0, "2*m - 1": 0, "0": 0, "-1": 0, "n - n": 0, "1000000*n + 1000000*n": 0, "-1000000": 0,
		"k": api.ErrNone, "a": api.ErrNone, "n + k": api.ErrNone, "0*k": api.ErrNone, "1000001 + k": api.ErrNone, "y": api.ErrNone,
		"1000001": api.ErrRange, "-1000001*m": api.ErrRange, "1000001 - 1000001": api.ErrRange,
	} {
		for _, e := range []string{"fold(add, 0, fill(0, %s))", "fold(add, 0, slice(a, %s, 1))", "fold(add, 0, slice(a, 1, %s))", "-(1 + fill(2, %s)[0 : 1])"} {
			text := sized("a: int^n", "y: int", "y = "+fmt.Sprintf(e, size)+";")
			if code == 0 {
				wantRight(t, text)
			} else {
				wantWrong(t, text, code, 0)
			}
		}
	}
	wantWrong(t, sized("a: int^n", "y: int^m", "y = slice(a, m, n);"), api.ErrType, 0)
	wantRight(t, sized("a: int^n", "y: int^m", "y = slice(a, n, m);"))
	wantRight(t, sized("a: int^n", "y: int^1", "y = slice(a, 1000000, 1);")) // whether it lies within is not told here
}

// P5.1: a size that comes to nothing is that of an array all the same.
func TestSizeWithoutTerms(t *testing.T) {
	for _, e := range []string{"a", "fill(0, 0)", "fill(0, m - m)", "cat(b, c)", "cat(c, b)", "map(neg, cat(b, c))", "slice(b, 0, 0*n)", "cat(cat(c, a), b)"} {
		node := func(y, e string) string { return sized("a: int^0, b: int^n, c: int^-n", "y: "+y, "y = "+e+";") }
		for _, y := range []string{"int^0", "int^n - n", "int^0*m", "int^3 - 3"} {
			wantRight(t, node(y, e))
		}
		wantWrong(t, node("int", e), api.ErrType, 0)
		wantWrong(t, node("int^1", e), api.ErrType, 0)
		wantWrong(t, node("int", "-"+e), api.ErrType, 0)
		wantRight(t, node("int", "fold(add, 0, "+e+")"))
		wantRight(t, node("int", e+"[0 : 0]"))
		wantWrong(t, node("int^1", "fill("+e+", 1)"), api.ErrType, 0)
	}
}

// P5.1: the size of a cat is its parts' sizes' sum, whose terms are within the
// range, whatever they come to.
func TestCatSums(t *testing.T) {
	const inputs = "a: int^1000000, b: int^-1000000, c: int^1000000*n, d: bool^1000000, p: int^1000000 + 1000000"
	node := func(y, e string) string { return sized(inputs, "y: int^"+y, "y = "+e+";") }
	for _, right := range []struct{ y, e string }{
		{"1000000 + 1000000", "cat(a, a)"},
		{"500000 + 1000000 + 500000", "cat(a, a)"},
		{"1000000 + 1000000", "p"},
		{"1000000 + 1000000 + 1000000", "cat(cat(a, a), a)"},
		{"1000000 + 1000000 + 1000000", "cat(a, cat(a, a))"},
		{"1000000 + 1000000 + 1000000", "cat(p, a)"},
		{"1000000 + 1000000 + 1000000 + 1000000", "cat(cat(a, a), cat(a, a))"},
		{"1000000 + 1000000 + 1000000 + 1000000", "cat(p, cat(a, a))"},
		{"-1000000 - 1000000 - 1000000", "cat(b, cat(b, b))"},
		{"1000000*n + 1000000*n - 1000000", "cat(cat(c, c), b)"},
		{"1000000*n + 1000000 + 1000000*n", "cat(cat(a, cat(c, c)), fill(0, 0))"},
		{"1000000", "cat(cat(a, a), b)"},
		{"1000000", "cat(b, p)"},
		{"0", "cat(cat(a, a), cat(b, b))"},
		{"1000000 + 1000000", "map(neg, cat(a, a))"},
		{"1000000 + 1000000", "map(add, cat(a, a), cat(a, a))"},
		{"1000000 + 1000000", "map(add, p, cat(a, a))"},
		{"1000000 + 1000000", "map(add, cat(a, a), fill(1, 1000000 + 1000000))"},
		{"1000000 + 1000000", "scan(add, 0, cat(a, a))"},
		{"1000000 + 1000000", "if true then cat(a, a) else p"},
		{"1000000 + 1000000", "if true then p else cat(a, a)"},
		{"1000000 + 1000000", "with(cat(a, a), 0, 1)"},
		{"1000000 + 1000000", "pre(cat(a, a), cat(a, a))"},
		{"1", "slice(cat(a, a), 0, 1)"},
		{"1", "fill(fold(add, 0, cat(a, a)), 1)"},
		{"1", "fill(cat(a, a)[0 : 1], 1)"},
	} {
		wantRight(t, node(right.y, right.e))
		wantWrong(t, node(right.y+" + 1", right.e), api.ErrType, 0)
		wantWrong(t, node(right.y+" + n", right.e), api.ErrType, 0)
	}
	wantWrong(t, node("0", "cat(cat(a, a), d)"), api.ErrType, 0)
	wantWrong(t, node("0", "cat(cat(a, a), 0)"), api.ErrType, 0)
	wantWrong(t, node("0", "map(add, cat(a, a), a)"), api.ErrType, 0)
	wantWrong(t, node("0", "map(add, cat(a, a), cat(a, p))"), api.ErrType, 0)
	wantWrong(t, node("0", "pre(cat(a, a), cat(b, b))"), api.ErrType, 0)
}

// P5.1: such a sum as what is given to a call, and as what a call makes.
func TestCatSumsOfCalls(t *testing.T) {
	const text = "node f<n>(a: int^n) -> (b: int^n) { b = a; } node main(a: int^1000000) -> (b: int^1000000 + 1000000) { b = call f<1000000 + 1000000>(cat(a, a)); }"
	wantRight(t, text)
	for _, c := range []change{
		{"b: int^1000000 + ", "b: int^1000000 - ", api.ErrType, 1},
		{"f<1000000 + ", "f<999999 + ", api.ErrType, 1},
		{"cat(a, a)", "cat(a, cat(a, a))", api.ErrType, 1},
		{"cat(a, a)", "a", api.ErrType, 1},
	} {
		other, _ := c.made(text)
		wantWrong(t, other, c.code, c.at)
	}
	wantRight(t, "node f<n>(a: int^n) -> (b: int^n + n) { b = cat(a, a); } node main(a: int^1000000) -> (b: int^1000000 + 1000000) { b = call f<1000000>(a); }")
}

// P5.1: a sum without a normal form. No program that may stand as a text has
// parts of so many terms.
func TestCatRange(t *testing.T) {
	terms := func(elem byte, count int) api.Type {
		return api.Type{Elem: elem, N: slices.Repeat(sum(1, "n"), count)}
	}
	if got, code := typeOfCat(terms('i', 600), terms('i', 400)); code != 0 || !Same(got, terms('i', 1000)) {
		t.Errorf("1000 terms: code %d, %d terms of %q", code, len(got.N), got.Elem)
	}
	for _, l := range [][2]api.Type{{terms('i', 600), terms('i', 401)}, {terms('b', 1), terms('b', 1000)}} {
		if got, code := typeOfCat(l[0], l[1]); code != api.ErrRange || got.Elem != 0 || got.N != nil {
			t.Errorf("1001 terms: code %d, %d terms of %q", code, len(got.N), got.Elem)
		}
	}
	if _, code := typeOfCat(terms('i', 600), terms('b', 600)); code != api.ErrType { // told ahead of the sum
		t.Errorf("1200 terms of other cells: code %d", code)
	}
}

// P5.1: a size that is put in and has no terms is 0.
func TestPutInNone(t *testing.T) {
	got, code := putIn([]string{"n"}, []api.Size{{}})(api.Decl{T: api.Type{Elem: 'b', N: sum(2, "n")}})
	if code != 0 || !Same(got, api.Type{Elem: 'b', N: sum(0, "")}) {
		t.Errorf("code %d, %v", code, got)
	}
}
