package syntax

import (
	"slices"
	"strconv"
	"strings"
	"testing"

	"loomwork/api"
	"loomwork/token"
)

// chapterGrammar is the grammar at the chapter's head, word by word.
const chapterGrammar = `
program = node { node }
node    = "node" NAME [ "<" NAME { "," NAME } ">" ] "(" [ decls ] ")" "->" "(" decls ")" "{" { "var" decl ";" | eq ";" } "}"
decls   = decl { "," decl }
decl    = NAME ":" ( "int" | "bool" ) [ "^" size ]
size    = [ "-" ] term { ( "+" | "-" ) term }
term    = NAME | NUMBER [ "*" NAME ]
eq      = NAME "=" expr
        | NAME { "," NAME } "=" "call" NAME [ "<" size { "," size } ">" ] "(" [ expr { "," expr } ] ")"
expr    = and { ( "or" | "xor" ) and }
and     = cmp { "and" cmp }
cmp     = sum [ ( "<" | "==" ) sum ]
sum     = product { ( "+" | "-" ) product }
product = ahead { ( "*" | "/" | "%" ) ahead }
ahead   = ( "-" | "not" ) ahead | unit { "[" expr ":" expr "]" }
unit    = NUMBER | NAME | "true" | "false" | "(" expr ")" | "if" expr "then" expr "else" expr
        | ( "min" | "max" ) "(" expr "," expr ")" | "map" "(" op "," expr [ "," expr ] ")"
        | ( "fold" | "scan" ) "(" op "," expr "," expr ")" | "fill" "(" expr "," size ")"
        | "with" "(" expr "," expr "," expr ")" | "slice" "(" expr "," size "," size ")"
        | ( "cat" | "pre" ) "(" expr "," expr ")"
op      = "add" | "sub" | "mul" | "div" | "mod" | "min" | "max" | "less" | "eq" | "and" | "or" | "xor" | "neg" | "not"
`

// grammar has for each name its ways of being written, each a row of names
// and of tokens (in quotes, or NAME and NUMBER).
type grammar struct {
	ways  map[string][][]string
	empty map[string]bool
}

// readGrammar makes each bracket of the chapter's text a name of its own.
func readGrammar(text string) *grammar {
	g := &grammar{ways: map[string][][]string{}, empty: map[string]bool{}}
	var words []string
	for _, line := range strings.Split(strings.TrimSpace(text), "\n") {
		fields := strings.Fields(line)
		if fields[0] == "|" {
			words = append(words, fields...)
			continue
		}
		words = append(words, ".")
		words = append(words, fields...)
	}
	words = append(words, ".")
	for len(words) > 1 {
		name := words[1]
		g.ways[name], words = g.readWays(words[3:])
	}
	for changed := true; changed; {
		changed = false
		for name, ways := range g.ways {
			for _, way := range ways {
				if !g.empty[name] && !slices.ContainsFunc(way, func(s string) bool { return !g.empty[s] }) {
					g.empty[name], changed = true, true
				}
			}
		}
	}
	return g
}

// readWays reads up to what ends a bracket or a rule.
func (g *grammar) readWays(words []string) (ways [][]string, rest []string) {
	var way []string
	for {
		word := words[0]
		switch word {
		case "|":
			ways = append(ways, way)
			way = nil
			words = words[1:]
		case ")", "]", "}", ".":
			return append(ways, way), words
		case "(", "[", "{":
			var inner [][]string
			inner, words = g.readWays(words[1:])
			words = words[1:]
			name := "#" + strconv.Itoa(len(g.ways))
			g.ways[name] = nil
			if word == "{" {
				for i := range inner {
					inner[i] = append([]string{name}, inner[i]...)
				}
			}
			if word != "(" {
				inner = append(inner, []string{})
			}
			g.ways[name] = inner
			way = append(way, name)
		default:
			way = append(way, word)
			words = words[1:]
		}
	}
}

// item: a way of a name, begun at a token, read so far.
type item struct {
	name       string
	way, begun int
	read       int
}

// chart has for each token, and for the beginning, the items that may go on.
// (This is Earley's way of reading, which knows no more than the grammar.)
type chart [][]item

func (g *grammar) begin() chart {
	var first []item
	for i := range g.ways["program"] {
		first = append(first, item{name: "program", way: i})
	}
	return chart{g.close(chart{}, first)}
}

// close adds to the items of one place all those that follow from them.
func (g *grammar) close(before chart, items []item) []item {
	seen := map[item]bool{}
	var list []item
	add := func(it item) {
		if !seen[it] {
			seen[it] = true
			list = append(list, it)
		}
	}
	for _, it := range items {
		add(it)
	}
	for i := 0; i < len(list); i++ {
		it := list[i]
		way := g.ways[it.name][it.way]
		if it.read == len(way) {
			from := list
			if it.begun < len(before) {
				from = before[it.begun]
			}
			for _, outer := range from {
				outerWay := g.ways[outer.name][outer.way]
				if outer.read < len(outerWay) && outerWay[outer.read] == it.name {
					outer.read++
					add(outer)
				}
			}
			continue
		}
		next := way[it.read]
		for j := range g.ways[next] {
			add(item{name: next, way: j, begun: len(before)})
		}
		if g.empty[next] {
			it.read++
			add(it)
		}
	}
	return list
}

// feed answers the chart behind one more token, or false if it can't stand.
func (g *grammar) feed(c chart, t api.Token) (chart, bool) {
	want := `"` + t.Text + `"`
	switch t.Kind {
	case api.TokName:
		want = "NAME"
	case api.TokNumber:
		want = "NUMBER"
	}
	var moved []item
	for _, it := range c[len(c)-1] {
		way := g.ways[it.name][it.way]
		if it.read < len(way) && way[it.read] == want {
			it.read++
			moved = append(moved, it)
		}
	}
	if len(moved) == 0 {
		return c, false
	}
	return append(slices.Clip(c), g.close(c, moved)), true
}

// whole tells whether the tokens so far are a program.
func (g *grammar) whole(c chart) bool {
	return slices.ContainsFunc(c[len(c)-1], func(it item) bool {
		return it.name == "program" && it.begun == 0 && it.read == len(g.ways["program"][it.way])
	})
}

// fault tells what Parse must say of tokens that pass no limit, from a chart
// of those ahead of them on.
func (g *grammar) fault(c chart, rest []api.Token, length int) api.Fault {
	for _, t := range rest {
		var ok bool
		if c, ok = g.feed(c, t); !ok {
			return api.Fault{Code: api.ErrForm, At: t.At}
		}
	}
	if !g.whole(c) {
		return api.Fault{Code: api.ErrShort, At: length}
	}
	return api.Fault{}
}

// allTokens are all words and signs, a name and a number.
var allTokens = strings.Fields("add and bool call cat div else eq false fill fold if int less map max min mod mul neg node not or pre scan slice sub then true var with xor " +
	"( ) { } [ ] < > , ; : + - * / % = ^ == -> q 5")

func scanned(t *testing.T, src string) []api.Token {
	t.Helper()
	tokens, fault := token.Scan(src)
	if fault.Code != 0 {
		t.Fatalf("Scan(%q): fault %v", src, fault)
	}
	return tokens
}

// chartsOf are the charts behind each of the tokens of a text.
func chartsOf(t *testing.T, g *grammar, src string) []chart {
	t.Helper()
	c := g.begin()
	charts := []chart{c}
	for _, tok := range scanned(t, src) {
		var ok bool
		if c, ok = g.feed(c, tok); !ok {
			t.Fatalf("%q: the token at %d can't stand", src, tok.At)
		}
		charts = append(charts, c)
	}
	return charts
}

// checkAll goes on from a text in every way by so many tokens, and asks of
// each whether Parse tells what the grammar says.
func checkAll(t *testing.T, g *grammar, c chart, src string, more int) {
	for _, text := range allTokens {
		longer := src + " " + text
		next, ok := g.feed(c, scanned(t, longer)[len(c)-1])
		want := api.Fault{Code: api.ErrForm, At: len(src) + 1}
		switch {
		case ok && g.whole(next):
			want = api.Fault{}
		case ok:
			want = api.Fault{Code: api.ErrShort, At: len(longer)}
		}
		if p, fault := Parse(longer); fault != want || (len(p.Nodes) > 0) != (want.Code == 0) {
			t.Errorf("Parse(%q): fault %v, want %v", longer, fault, want)
		}
		if ok && more > 1 {
			checkAll(t, g, next, longer, more-1)
		}
	}
}

// P1, P2.1: all short rows of tokens, from many a place on.
func TestAllShortTexts(t *testing.T) {
	g := readGrammar(chapterGrammar)
	for src, more := range map[string]int{
		"": 4, "node q (": 3, "node q ( )": 5, "node q < n > (": 3, "node q ( ) -> ( q : int": 3, "node q ( ) -> ( q : int )": 3,
		"node q ( ) -> ( q : int ) {": 3, "node q ( ) -> ( q : int ) { }": 2, "node q ( ) -> ( q : int ^": 3, "node q ( a : bool ^ 2 * n": 3,
		"node q ( ) -> ( q : int ) { q =": 3, "node q ( ) -> ( q : int ) { q , q = call": 4, "node q ( ) -> ( q : int ) { q = call f <": 3,
		"node q ( ) -> ( q : int ) { q = call f (": 2, "node q ( ) -> ( q : int ) { q = map (": 3, "node q ( ) -> ( q : int ) { q = map ( add , x": 2,
		"node q ( ) -> ( q : int ) { q = map ( add , x , y": 2, "node q ( ) -> ( q : int ) { q = fold ( add , x": 2,
		"node q ( ) -> ( q : int ) { q = scan ( add , x , y": 2, "node q ( ) -> ( q : int ) { q = fill ( x": 3, "node q ( ) -> ( q : int ) { q = slice ( x , 1": 3,
		"node q ( ) -> ( q : int ) { q = slice ( x , 1 , n": 2, "node q ( ) -> ( q : int ) { q = with ( x": 2, "node q ( ) -> ( q : int ) { q = with ( x , y": 2,
		"node q ( ) -> ( q : int ) { q = with ( x , y , z": 2, "node q ( ) -> ( q : int ) { q = cat ( x": 2, "node q ( ) -> ( q : int ) { q = pre ( x , y": 2,
		"node q ( ) -> ( q : int ) { q = x [ y": 2, "node q ( ) -> ( q : int ) { q = x [ y : z": 2, "node q ( ) -> ( q : int ) { q = if a": 2,
		"node q ( ) -> ( q : int ) { q = if a then b": 2, "node q ( ) -> ( q : int ) { q = if a then b else c": 2, "node q ( ) -> ( q : int ) { q = ( a": 2,
		"node q ( ) -> ( q : int ) { q = - not a": 2, "node q ( ) -> ( q : int ) { q = a == b": 2, "node q ( ) -> ( q : int ) { q = if a then b else c < d": 3,
		"node q ( ) -> ( q : int ) { var": 4, "node q ( ) -> ( q : int ) { var q : int ;": 2, "node q ( ) -> ( q : int ) { q = 1 ;": 2,
	} {
		charts := chartsOf(t, g, src)
		checkAll(t, g, charts[len(charts)-1], src, more)
	}
}

// changedPrograms are changed at each token.
var changedPrograms = []string{
	"node f<n,m>(a:int^2*n-1,b:bool)->(c:int^n,d:bool^-3+m){var e:int;c,d=call g<n+1,3>(a,if b then 1 else d+2);e=-map(min,a,slice(a,0,n))[-1:0];}node g()->(a:int){}",
	"node f()->(c:int){c=fold(add,0,with(a,1,2))<scan(xor,true,fill(not x,n-2*m)) or x;d=pre(false,cat(a,b)) and min(a/b,c%d)==max(a*b,(c-d)+1);x,y,z=call h(); }",
}

// P1, P2.1: programs in which one token is another one, is left out, stands
// twice, or in which one is put ahead of it.
func TestChangedTokens(t *testing.T) {
	g := readGrammar(chapterGrammar)
	for _, src := range changedPrograms {
		charts := chartsOf(t, g, src)
		tokens := scanned(t, src)
		parsed(t, src)
		for i, tok := range tokens {
			end := tok.At + len(tok.Text)
			front, behind := src[:tok.At]+" ", " "+src[end:]
			changed := []string{front + behind, front + tok.Text + " " + tok.Text + behind}
			for _, other := range allTokens {
				changed = append(changed, front+other+behind, front+other+" "+tok.Text+behind)
			}
			for _, text := range changed {
				want := g.fault(charts[i], scanned(t, text)[i:], len(text))
				if _, fault := Parse(text); fault != want {
					t.Errorf("Parse(%q): fault %v, want %v", text, fault, want)
				}
			}
		}
	}
}

// P2.1: a text ends too early behind each of its tokens but the last ones of
// nodes.
func TestCutBehindEachToken(t *testing.T) {
	g := readGrammar(chapterGrammar)
	for _, src := range changedPrograms {
		charts := chartsOf(t, g, src)
		for i, tok := range scanned(t, src) {
			cut := src[:tok.At+len(tok.Text)] + "\n# cut"
			want := api.Fault{Code: api.ErrShort, At: len(cut)}
			if g.whole(charts[i+1]) {
				want = api.Fault{}
			}
			if _, fault := Parse(cut); fault != want {
				t.Errorf("Parse(%q): fault %v, want %v", cut, fault, want)
			}
		}
	}
}

// bracketedText writes an expression with brackets around each part.
func bracketedText(e api.Expr) string {
	var parts []string
	for _, part := range e.L {
		parts = append(parts, "("+bracketedText(part)+")")
	}
	for _, s := range e.S {
		parts = append(parts, strconv.FormatInt(s[0].N, 10)+"*"+s[0].Name)
	}
	words := strings.Fields("- add sub mul div mod min max less eq and or xor neg not")
	signs := strings.Fields("? + - * / % min max < == and or xor - not")
	list := strings.Join(parts, ",")
	switch e.Op {
	case api.XNum:
		return strconv.FormatInt(e.N, 10)
	case api.XTruth:
		return []string{"false", "true"}[e.N]
	case api.XName:
		return e.Name
	case api.XUn:
		return signs[e.K] + parts[0]
	case api.XBin:
		if e.K == api.KMin || e.K == api.KMax {
			return signs[e.K] + "(" + list + ")"
		}
		return parts[0] + signs[e.K] + parts[1]
	case api.XIf:
		return "if" + parts[0] + "then" + parts[1] + "else" + parts[2]
	case api.XIndex:
		return parts[0] + "[" + parts[1] + ":" + parts[2] + "]"
	}
	forms := map[int]string{api.XMap: "map", api.XFold: "fold", api.XScan: "scan", api.XFill: "fill", api.XWith: "with", api.XSlice: "slice", api.XCat: "cat", api.XPre: "pre"}
	if e.K != 0 {
		list = words[e.K] + "," + list
	}
	return forms[e.Op] + "(" + list + ")"
}

// grownBy makes of some expressions all that have them as parts: each kind of
// an expression, with its parts taken in turn.
func grownBy(some []api.Expr) []api.Expr {
	var list []api.Expr
	turn := 0
	add := func(e api.Expr, parts int) {
		for range len(some) {
			for range parts {
				e.L = append(e.L, some[turn%len(some)])
				turn++
			}
			turn++
			list = append(list, e)
			e.L = nil
		}
	}
	size := []api.Size{{{N: 3, Name: "n"}}, {{N: 4, Name: "m"}}}
	for k := api.KAdd; k <= api.KNot; k++ {
		if k <= api.KXor {
			add(api.Expr{Op: api.XBin, K: k}, 2)
		} else {
			add(api.Expr{Op: api.XUn, K: k}, 1)
		}
		add(api.Expr{Op: api.XMap, K: k}, 1)
		add(api.Expr{Op: api.XMap, K: k}, 2)
		add(api.Expr{Op: api.XFold, K: k}, 2)
		add(api.Expr{Op: api.XScan, K: k}, 2)
	}
	add(api.Expr{Op: api.XIf}, 3)
	add(api.Expr{Op: api.XFill, S: size[:1]}, 1)
	add(api.Expr{Op: api.XIndex}, 3)
	add(api.Expr{Op: api.XWith}, 3)
	add(api.Expr{Op: api.XSlice, S: size}, 1)
	add(api.Expr{Op: api.XCat}, 2)
	add(api.Expr{Op: api.XPre}, 2)
	return list
}

// P2.1: expressions of every kind within one another, each part in brackets,
// are what Parse makes of their texts.
func TestBracketedExpressions(t *testing.T) {
	units := []api.Expr{{Op: api.XNum, N: 7}, {Op: api.XName, Name: "x"}, {Op: api.XTruth}, {Op: api.XTruth, N: 1}, {Op: api.XName, Name: "y2"}}
	once := grownBy(units)
	for _, e := range slices.Concat(units, once, grownBy(once)) {
		text := bracketedText(e)
		if got := exprOf(t, text); !sameExpr(got, e) || toldExpr(got) != toldExpr(e) {
			t.Fatalf("%q: %s, want %s", text, toldExpr(got), toldExpr(e))
		}
	}
}

// P1: every call ends without a panic, on whatever bytes and tokens, and
// answers the same again.
func TestParseAlwaysAnswers(t *testing.T) {
	var texts []string
	for b := range 256 {
		one := string([]byte{byte(b)})
		texts = append(texts, one, exprFront+one, exprFront+"x"+one+"y"+exprEnd, strings.Repeat(one, api.MaxText), strings.Repeat(one, api.MaxText+1))
	}
	for _, tok := range allTokens {
		for _, other := range allTokens {
			texts = append(texts, exprFront+strings.Repeat(tok+" "+other+" ", 500), bodyFront+strings.Repeat(tok+" "+other+" ", 500))
		}
		texts = append(texts, strings.Repeat(tok+" ", api.MaxText/(len(tok)+1)))
	}
	long := exprFront + strings.Repeat("1+", (api.MaxText-len(exprFront))/2-2) + "1" + exprEnd
	texts = append(texts, long, exprFront+"x"+strings.Repeat("[1:2]", 2300)+exprEnd)
	for _, src := range texts {
		p, fault := Parse(src)
		again, faultAgain := Parse(src)
		if fault != faultAgain || toldProgram(p) != toldProgram(again) {
			t.Fatalf("%.60q: another answer the second time", src)
		}
		if (fault.Code == 0) != (len(p.Nodes) > 0) || fault.Code == 0 && fault.At != 0 {
			t.Fatalf("%.60q: fault %v beside %d nodes", src, fault, len(p.Nodes))
		}
	}
	wantFault(t, long, api.ErrMany, len(exprFront))
}

// spoil changes all that lists of an expression hold, up to their capacity.
func spoil(list []api.Expr) {
	list = list[:cap(list)]
	for i := range list {
		spoil(list[i].L)
		spoilSizes(list[i].S)
		list[i] = api.Expr{Op: 99, Name: "spoilt"}
	}
}

func spoilSizes(list []api.Size) {
	list = list[:cap(list)]
	for i := range list {
		clear(list[i][:cap(list[i])])
		list[i] = nil
	}
}

func spoilDecls(list []api.Decl) {
	list = list[:cap(list)]
	for i := range list {
		clear(list[i].T.N[:cap(list[i].T.N)])
		list[i].Name = "spoilt"
	}
}

// P1: an answer that is changed changes no later one, nor another part of
// itself: no two of its lists lie in one another.
func TestAnswersAreNew(t *testing.T) {
	for _, src := range changedPrograms {
		want := toldProgram(parsed(t, src))
		p := parsed(t, src)
		for i := range p.Nodes {
			n := &p.Nodes[i]
			for j := range n.Eqs {
				rest := toldProgram(api.Program{Nodes: []api.Node{{Sizes: n.Sizes, In: n.In, Out: n.Out, Local: n.Local, Eqs: n.Eqs[j+1:]}}})
				spoil(n.Eqs[j].E)
				spoilSizes(n.Eqs[j].S)
				clear(n.Eqs[j].Names[:cap(n.Eqs[j].Names)])
				if got := toldProgram(api.Program{Nodes: []api.Node{{Sizes: n.Sizes, In: n.In, Out: n.Out, Local: n.Local, Eqs: n.Eqs[j+1:]}}}); got != rest {
					t.Errorf("%q: an equation shares with others", src)
				}
			}
			spoilDecls(n.In)
			spoilDecls(n.Out)
			spoilDecls(n.Local)
			clear(n.Sizes)
		}
		if got := toldProgram(parsed(t, src)); got != want {
			t.Errorf("%q: another answer behind a change", src)
		}
	}
}
