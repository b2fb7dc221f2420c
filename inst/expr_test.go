package inst

import (
	"strings"
	"testing"

	"loomwork/api"
	"loomwork/kinds"
)

// P6: the chapter's example.
func TestExample(t *testing.T) {
	wantMade(t, "node main(x: int) -> (y: int) { y = x + 1; }", 1, 1, "i i i",
		number(2, 1), rule(api.QBin, api.KAdd, 1, 0, 2))
}

// P6: variables are numbered as they come: main's inputs, main's outputs, its
// locals, in order; then what parts are made, equation by equation.
func TestNumbers(t *testing.T) {
	wantMade(t, "node main(a: int, b: bool^2, c: int^3) -> (d: bool, e: int^3) { var f: int^4; d = not g; e = c; var g: bool; f = fill(a, 4); g = d; }", 3, 2,
		"i b2 i3 b i3 i4 b",
		rule(api.QUn, api.KNot, 3, 6),
		rule(api.QCopy, 0, 4, 2),
		rule(api.QFill, 0, 5, 0),
		rule(api.QCopy, 0, 6, 3))
	wantMade(t, "node main() -> (y: int, z: int) { var v: int; y = 1 + 2; v = 3 + 4; z = 5 + 6; }", 0, 2,
		"i i i i i i i i i",
		number(3, 1), number(4, 2), rule(api.QBin, api.KAdd, 0, 3, 4),
		number(5, 3), number(6, 4), rule(api.QBin, api.KAdd, 2, 5, 6),
		number(7, 5), number(8, 6), rule(api.QBin, api.KAdd, 1, 7, 8))
	wantMade(t, "node main() -> (y: bool) { y = true; }", 0, 1, "b", number(0, 1))
}

// P6: parts from the left, and a new one behind its parts.
func TestNumbersOfParts(t *testing.T) {
	wantMade(t, "node main(x: int) -> (y: int) { y = (1 + x) * (x - -2); }", 1, 1,
		"i i i i i i i",
		number(2, 1), rule(api.QBin, api.KAdd, 3, 2, 0),
		number(4, 2), rule(api.QUn, api.KNeg, 5, 4), rule(api.QBin, api.KSub, 6, 0, 5),
		rule(api.QBin, api.KMul, 1, 3, 6))
	wantMade(t, "node main(a: int^3, c: bool) -> (y: int^2) { y = if not c then slice(a, 1, 2) else cat(fill(7, 1), fill(a[0 : 8], 1)); }", 2, 1,
		"i3 b i2 b i2 i i1 i i i i1 i2",
		rule(api.QUn, api.KNot, 3, 1),
		slice(4, 1, 0),
		number(5, 7), rule(api.QFill, 0, 6, 5),
		number(7, 0), number(8, 8), rule(api.QIndex, 0, 9, 0, 7, 8), rule(api.QFill, 0, 10, 9),
		rule(api.QCat, 0, 11, 6, 10),
		rule(api.QIf, 0, 2, 3, 4, 11))
}

// P6: a name has one variable, however often it is named; any other part is made
// a new one each time.
func TestNamesAndParts(t *testing.T) {
	wantMade(t, "node main(x: int) -> (y: int) { y = x * x + 2 * 2; }", 1, 1, "i i i i i i",
		rule(api.QBin, api.KMul, 2, 0, 0),
		number(3, 2), number(4, 2), rule(api.QBin, api.KMul, 5, 3, 4),
		rule(api.QBin, api.KAdd, 1, 2, 5))
	wantMade(t, "node main(x: int) -> (y: int, z: int) { y = y; z = pre(x, z); }", 1, 2, "i i i",
		rule(api.QCopy, 0, 1, 1), rule(api.QPre, 0, 2, 0, 2))
}

// form is an expression of names, what it makes, and the rule that it becomes,
// its Out left open.
type form struct {
	inputs, expr, kind string
	want               api.Rule
}

var forms = []form{
	{"", "0", "int", number(0, 0)},
	{"", "999999999999999999", "int", number(0, 999999999999999999)},
	{"", "false", "bool", number(0, 0)},
	{"", "true", "bool", number(0, 1)},
	{"c: bool, x: int, y: int", "if c then x else y", "int", rule(api.QIf, 0, 0, 0, 1, 2)},
	{"c: bool, x: bool, y: bool", "if y then c else x", "bool", rule(api.QIf, 0, 0, 2, 0, 1)},
	{"c: bool, x: int^3, y: int^3", "if c then y else x", "int^3", rule(api.QIf, 0, 0, 0, 2, 1)},
	{"x: int", "fill(x, 7)", "int^7", rule(api.QFill, 0, 0, 0)},
	{"x: bool", "fill(x, 5 - 4)", "bool^1", rule(api.QFill, 0, 0, 0)},
	{"a: int^3, i: int, d: int", "a[i : d]", "int", rule(api.QIndex, 0, 0, 0, 1, 2)},
	{"i: int, d: bool, a: bool^4", "a[i : d]", "bool", rule(api.QIndex, 0, 0, 2, 0, 1)},
	{"a: int^3, i: int, d: int", "with(a, d, i)", "int^3", rule(api.QWith, 0, 0, 0, 2, 1)},
	{"a: bool^4, i: int, d: bool", "with(a, i, d)", "bool^4", rule(api.QWith, 0, 0, 0, 1, 2)},
	{"a: int^9", "slice(a, 2, 3)", "int^3", slice(0, 2, 0)},
	{"a: bool^9", "slice(a, 0, 9)", "bool^9", slice(0, 0, 0)},
	{"a: int^3, b: int^4", "cat(b, a)", "int^7", rule(api.QCat, 0, 0, 1, 0)},
	{"a: bool^1, b: bool^2", "cat(a, b)", "bool^3", rule(api.QCat, 0, 0, 0, 1)},
	{"x: int, y: int", "pre(y, x)", "int", rule(api.QPre, 0, 0, 1, 0)},
	{"x: bool^6, y: bool^6", "pre(x, y)", "bool^6", rule(api.QPre, 0, 0, 0, 1)},
}

// operations are the forms that have an operator.
func operations() []form {
	words := strings.Fields("add sub mul div mod min max less eq and or xor neg not")
	signs := strings.Fields("+ - * / % min max < == and or xor - not")
	names := map[byte]string{'i': "int", 'b': "bool"}
	var list []form
	for i, word := range words {
		k := i + 1
		takes, makes, n := kinds.Op(k)
		of, to := names[takes], names[makes]
		scalars := "x: " + of + ", y: " + of
		arrays := "x: " + of + "^5, y: " + of + "^5"
		one, two := rule(api.QUn, k, 0, 1), rule(api.QBin, k, 0, 1, 0)
		switch {
		case n == 1:
			list = append(list, form{scalars, signs[i] + " y", to, one}, form{arrays, "map(" + word + ", y)", to + "^5", one})
			continue
		case k == api.KMin || k == api.KMax:
			list = append(list, form{scalars, word + "(y, x)", to, two})
		default:
			list = append(list, form{scalars, "y " + signs[i] + " x", to, two})
		}
		list = append(list, form{arrays, "map(" + word + ", y, x)", to + "^5", two})
		if kinds.Folds(k) {
			mixed := "a: " + of + "^5, x: " + of
			list = append(list, form{mixed, "fold(" + word + ", x, a)", of, rule(api.QFold, k, 0, 1, 0)},
				form{mixed, "scan(" + word + ", x, a)", of + "^5", rule(api.QScan, k, 0, 1, 0)})
		}
	}
	return list
}

// short writes declarations as types reads them.
func short(decls string) string {
	out := ""
	for _, d := range strings.Split(decls, ", ") {
		kind := d[strings.Index(d, ":")+1:]
		kind = strings.NewReplacer("int", "i", "bool", "b", "^", "").Replace(kind)
		out += kind
	}
	return out + " "
}

// P6: which rule each kind of expression becomes, as a whole equation and as a
// part, and what is made of it there.
func TestForms(t *testing.T) {
	count := map[int]int{}
	for _, c := range append(operations(), forms...) {
		vars, in := "", 0
		if c.inputs != "" {
			vars, in = short(c.inputs), strings.Count(c.inputs, ":")
		}
		vars += short("o: " + c.kind)
		front := "node main(" + c.inputs + ") -> (o: " + c.kind + ") { o = "
		whole := c.want
		whole.Out = in
		wantMade(t, front+c.expr+"; }", in, 1, vars, whole)
		part := c.want
		part.Out = in + 1
		wantMade(t, front+"pre(o, "+c.expr+"); }", in, 1, vars+short("p: "+c.kind), part, rule(api.QPre, 0, in, in, in+1))
		p := parsed(t, front+c.expr+"; }")
		count[p.Nodes[0].Eqs[0].E[0].Op]++
	}
	for op := api.XNum; op <= api.XPre; op++ {
		if op != api.XName && count[op] < 2 {
			t.Errorf("the kind %d was asked for %d times", op, count[op])
		}
	}
}

// P6: an XName as a whole equation is copied; as a part it is the name's variable.
func TestNames(t *testing.T) {
	for _, kind := range []string{"int", "bool", "int^3", "bool^300"} {
		text := "node main(z: int, x: " + kind + ") -> (o: " + kind + ", p: int) { var v: " + kind + "; o = x; v = o; p = z; }"
		vars := "i " + short("x: "+kind) + short("o: "+kind) + "i " + short("v: "+kind)
		wantMade(t, text, 2, 2, vars, rule(api.QCopy, 0, 2, 1), rule(api.QCopy, 0, 4, 2), rule(api.QCopy, 0, 3, 0))
		text = strings.Replace(text, "o = x", "o = pre(x, v)", 1)
		wantMade(t, text, 2, 2, vars, rule(api.QPre, 0, 2, 1, 4), rule(api.QCopy, 0, 4, 2), rule(api.QCopy, 0, 3, 0))
	}
}

// P6: what is made of an expression has the cells of what it is made of, through
// parts that are no names.
func TestTypesOfParts(t *testing.T) {
	wantMade(t, "node main(a: int^4, c: bool) -> (o: bool) { o = fold(and, c, map(less, scan(add, 0, map(neg, a)), pre(a, with(a, 1, 2)))); }", 2, 1,
		"i4 b b i i4 i4 i i i4 i4 b4",
		number(3, 0), rule(api.QUn, api.KNeg, 4, 0), rule(api.QScan, api.KAdd, 5, 3, 4),
		number(6, 1), number(7, 2), rule(api.QWith, 0, 8, 0, 6, 7), rule(api.QPre, 0, 9, 0, 8),
		rule(api.QBin, api.KLess, 10, 5, 9),
		rule(api.QFold, api.KAnd, 2, 1, 10))
	wantMade(t, "node main(a: bool^4) -> (o: bool) { o = cat(slice(a, 1, 2), fill(fold(or, false, a), 3))[0 : true]; }", 1, 1,
		"b4 b b2 b b b3 b5 i b",
		slice(2, 1, 0), number(3, 0), rule(api.QFold, api.KOr, 4, 3, 0), rule(api.QFill, 0, 5, 4),
		rule(api.QCat, 0, 6, 2, 5), number(7, 0), number(8, 1), rule(api.QIndex, 0, 1, 6, 7, 8))
}
