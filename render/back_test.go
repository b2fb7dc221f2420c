package render

import (
	"slices"
	"strings"
	"testing"

	"loomwork/api"
	"loomwork/syntax"
	"loomwork/token"
)

// maker makes an expression out of so many parts.
type maker struct {
	parts int
	made  func(parts ...api.Expr) api.Expr
}

func ofKind(kind, k, parts int) maker {
	return maker{parts, func(l ...api.Expr) api.Expr { return op(kind, k, l...) }}
}

// someMakers are of every kind, and of every operator that is a sign.
func someMakers() []maker {
	all := []maker{
		ofKind(api.XUn, api.KNeg, 1), ofKind(api.XUn, api.KNot, 1), ofKind(api.XIf, 0, 3), ofKind(api.XIndex, 0, 3),
		ofKind(api.XMap, api.KSub, 1), ofKind(api.XMap, api.KNeg, 2), ofKind(api.XFold, api.KMin, 2), ofKind(api.XScan, api.KNot, 2),
		ofKind(api.XWith, 0, 3), ofKind(api.XCat, 0, 2), ofKind(api.XPre, 0, 2),
		{1, func(l ...api.Expr) api.Expr { return fill(l[0], api.Size{{N: -1, Name: "n"}, {N: 3}}) }},
		{1, func(l ...api.Expr) api.Expr { return slice(l[0], size("n"), api.Size{{N: -2}}) }},
	}
	for k := api.KAdd; k <= api.KXor; k++ {
		all = append(all, ofKind(api.XBin, k, 2))
	}
	return all
}

// allMakers are of every kind with every operator that it may have.
func allMakers() []maker {
	all := someMakers()
	for k := api.KAdd; k <= api.KNot; k++ {
		all = append(all, ofKind(api.XMap, k, 1), ofKind(api.XMap, k, 2), ofKind(api.XFold, k, 2), ofKind(api.XScan, k, 2))
	}
	return all
}

var makers = allMakers()

func leaves() []api.Expr { return []api.Expr{a, num(1), truth(0), truth(1)} }

// with makes an expression of leaves, but for one part.
func (m maker) with(at int, part api.Expr) api.Expr {
	l := []api.Expr{name("x"), num(2), truth(1)}[:m.parts]
	l[at] = part
	return m.made(l...)
}

func (m maker) ofLeaves() api.Expr { return m.with(0, name("x")) }

// isOneOf tells whether a token's text is one of some.
func isOneOf(t api.Token, some string) bool { return slices.Contains(strings.Fields(some), t.Text) }

// closing answers the token that closes the bracket at a token.
func closing(tokens []api.Token, from int) int {
	open := 0
	for j := from; ; j++ {
		switch tokens[j].Text {
		case "(":
			open++
		case ")":
			open--
		}
		if open == 0 {
			return j
		}
	}
}

const betweenParts = "+ - * / % < == and or xor"

// wantFewBrackets asks whether something else would be said without any of the
// brackets of a text, and whether each "if" has them where it must.
func wantFewBrackets(t *testing.T, p api.Program, text string) {
	t.Helper()
	tokens, _ := token.Scan(text)
	for j, tok := range tokens {
		isBracket := tok.Text == "(" && tokens[j-1].Kind != api.TokName && !isOneOf(tokens[j-1], "-> > min max map fold scan fill with slice cat pre")
		if tok.Text == "if" && isOneOf(tokens[j-1], betweenParts+" not") {
			t.Errorf("%q: a bare if in an operation", text)
		}
		if !isBracket {
			continue
		}
		end := closing(tokens, j)
		if tokens[j+1].Text == "if" {
			if !isOneOf(tokens[j-1], betweenParts+" not") && !isOneOf(tokens[end+1], betweenParts+" [") {
				t.Errorf("%q: an if in brackets, but in no operation", text)
			}
			continue
		}
		bytes := []byte(text)
		bytes[tok.At], bytes[tokens[end].At] = ' ', ' '
		if other, fault := syntax.Parse(string(bytes)); fault.Code == 0 && syntax.Same(p, other) {
			t.Errorf("%q says the same without the bracket at %d", text, tok.At)
		}
	}
}

// wantWellWritten ends a test at the first fault: there may be thousands.
func wantWellWritten(t *testing.T, p api.Program) {
	t.Helper()
	wantFewBrackets(t, p, wantBack(t, "there and back", p))
	if t.Failed() {
		t.FailNow()
	}
}

// What follows: there and back of every kind and operator within every other.
func TestBackOfPairs(t *testing.T) {
	var inner []api.Expr
	for _, m := range makers {
		inner = append(inner, m.ofLeaves())
	}
	inner = append(inner, leaves()...)
	for _, e := range inner {
		wantWellWritten(t, one(e))
	}
	for _, m := range makers {
		for at := range m.parts {
			for _, e := range inner {
				wantWellWritten(t, one(m.with(at, e)))
			}
		}
	}
}

// What follows: there and back of three within one another.
func TestBackOfThree(t *testing.T) {
	some := someMakers()
	for _, outer := range some {
		for at := range outer.parts {
			for _, middle := range some {
				for within := range middle.parts {
					for _, inner := range some {
						wantWellWritten(t, one(outer.with(at, middle.with(within, inner.ofLeaves()))))
					}
				}
			}
		}
	}
}

// What follows: there and back of operations with operations on both sides.
func TestBackOfBothSides(t *testing.T) {
	some := someMakers()
	for k := api.KAdd; k <= api.KXor; k++ {
		for _, left := range some {
			for _, right := range some {
				wantWellWritten(t, one(bin(k, left.ofLeaves(), right.ofLeaves())))
			}
		}
	}
}

// What follows: parts within one another as far as they may be: what opens is
// never too much for Parse.
func TestBackOfDeepest(t *testing.T) {
	some := someMakers()
	for _, first := range some {
		for _, second := range some {
			for at := range first.parts {
				for within := range second.parts {
					e := a
					next, after, place, placeAfter := first, second, at, within
					for partsLeft(next.with(place, e), api.MaxTerms) >= 0 {
						e = next.with(place, e)
						next, after, place, placeAfter = after, next, placeAfter, place
					}
					wantWellWritten(t, one(e))
				}
			}
		}
	}
}

// dice is a row of numbers that is the same each time.
type dice uint64

func (d *dice) below(n int) int {
	*d = *d*6364136223846793005 + 1442695040888963407
	return int(uint64(*d)>>33) % n
}

func (d *dice) name() string {
	return []string{"a", "b", "x1", "main", longName}[d.below(5)]
}

func (d *dice) size() api.Size {
	s := make(api.Size, 1+d.below(3))
	for j := range s {
		s[j].N = []int64{0, 1, -1, 2, -30, api.MaxNum - 1, 1 - api.MaxNum}[d.below(7)]
		if d.below(2) == 0 {
			s[j].Name = d.name()
		}
	}
	return s
}

// expr is of at most so many parts.
func (d *dice) expr(most int) api.Expr {
	m := makers[d.below(len(makers))]
	if most <= m.parts || d.below(6) == 0 {
		return leaves()[d.below(4)]
	}
	l := make([]api.Expr, m.parts)
	for j := range l {
		l[j] = d.expr((most - 1) / m.parts)
	}
	e := m.made(l...)
	for j := range e.S {
		e.S[j] = d.size()
	}
	return e
}

func (d *dice) decls(least int) []api.Decl {
	list := make([]api.Decl, least+d.below(3))
	for j := range list {
		list[j] = api.Decl{Name: d.name(), T: api.Type{Elem: "ib"[d.below(2)]}}
		if d.below(2) == 0 {
			list[j].T.N = d.size()
		}
	}
	return list
}

func (d *dice) eq() api.Eq {
	q := api.Eq{Names: []string{d.name()}}
	if d.below(2) == 0 {
		q.E = []api.Expr{d.expr(api.MaxTerms)}
		return q
	}
	q.Node = d.name()
	for range d.below(3) {
		q.Names = append(q.Names, d.name())
		q.E = append(q.E, d.expr(api.MaxTerms))
	}
	for range d.below(api.MaxSizes + 1) {
		q.S = append(q.S, d.size())
	}
	return q
}

func (d *dice) program() api.Program {
	nodes := make([]api.Node, 1+d.below(3))
	for j := range nodes {
		n := api.Node{Name: d.name(), In: d.decls(0), Out: d.decls(1), Local: d.decls(0)}
		for range d.below(api.MaxSizes + 1) {
			n.Sizes = append(n.Sizes, d.name())
		}
		for range d.below(5) {
			n.Eqs = append(n.Eqs, d.eq())
		}
		nodes[j] = n
	}
	return program(nodes...)
}

// What follows: there and back of whole programs, and their texts once more.
func TestBackOfPrograms(t *testing.T) {
	d := dice(1)
	for range 3000 {
		p := d.program()
		wantWellWritten(t, p)
		text, _ := Print(p)
		back, _ := syntax.Parse(text)
		wantText(t, back, text)
		for j, line := range strings.Split(strings.TrimSuffix(text, "}\n"), "\n") {
			if strings.Contains(strings.TrimPrefix(line, "\t"), "\t") || strings.HasSuffix(line, " ") || strings.Contains(line, "  ") {
				t.Errorf("blanks in line %d: %q", j, line)
			}
		}
	}
}

// What follows: what Parse tells may stand as a text, or is too long.
func TestCheckOfParsed(t *testing.T) {
	d := dice(2)
	tight := strings.NewReplacer(" + ", "+", " * ", "*", " : ", ":", ", ", ",", " = ", "=", ";\n\t", ";", "{\n\t", "{")
	var texts []string
	for range 500 {
		text, _ := Print(d.program())
		texts = append(texts, tight.Replace(text), strings.ReplaceAll(text, " ", "\n# (\n"))
	}
	const front, end = "node a()->(b:int){", "}"
	for _, s := range []string{"b=0;", "b=a[a:a];", "b=((((a))));", "b=call a();", "var a:int;", "b=------a;", "b=fill(a,-0-0*n);"} {
		texts = append(texts, front+strings.Repeat(s, 30)+end, front+strings.Repeat("b,", 29)+"b=call a<n,n,n>("+strings.Repeat("a,", 29)+"a);"+end)
	}
	for _, text := range texts {
		p, fault := syntax.Parse(text)
		if len(text) > api.MaxText {
			continue
		}
		if fault.Code != 0 {
			t.Fatalf("Parse(%.200q): fault %v", text, fault)
		}
		wantBack(t, text, p)
	}
	// A text that is not too long, of a program whose own text is.
	long := strings.Repeat(front+strings.Repeat("b=a+a+a+a+a;", 60)+end, 10)
	p, fault := syntax.Parse(long)
	if fault.Code != 0 {
		t.Fatalf("the long text: fault %v", fault)
	}
	wantFault(t, "the long text", p, api.ErrMany, -1)
}
