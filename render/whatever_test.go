package render

import (
	"math"
	"reflect"
	"slices"
	"strings"
	"testing"

	"loomwork/api"
	"loomwork/syntax"
)

// ofLength is a program whose text has that many bytes.
func ofLength(n int) api.Program {
	const head, short = len("node a() -> (b: int) {\n}\n"), len("\tb = ;\n")
	wide := plain(fill(num(0), times(api.MaxTerms, api.Term{N: 1, Name: longName})))
	wideLength := short + len("fill(0, )") + api.MaxTerms*len(longName) + (api.MaxTerms-1)*len(" + ")
	left := n - 2*head
	var first, second []api.Eq
	for ; left > 2*wideLength; left -= wideLength {
		first = append(first, wide)
	}
	for left > 0 {
		letters := min(left-short, len(longName))
		if left > short+letters && left < 2*short+letters+1 { // so that one more has a letter at least
			letters -= short
		}
		second = append(second, plain(name(longName[:letters])))
		left -= short + letters
	}
	return program(node(first...), node(second...))
}

// P3.1: a text of MaxText bytes, and one of more.
func TestCheckLongTexts(t *testing.T) {
	for n := api.MaxText - 40; n <= api.MaxText; n++ {
		if text := wantBack(t, "a long text", ofLength(n)); len(text) != n {
			t.Errorf("%d bytes, want %d", len(text), n)
		}
	}
	for n := api.MaxText + 1; n <= api.MaxText+40; n++ {
		wantFault(t, "a text that is too long", ofLength(n), api.ErrMany, -1)
	}
}

// P1: a program that says as much as one may, over and over in the same memory.
func TestCheckFarTooLong(t *testing.T) {
	most := times(api.MaxTerms, api.Term{N: 1 - api.MaxNum, Name: longName})
	e := name(longName)
	for range api.MaxTerms - 1 {
		e = slice(e, most, most)
	}
	call := api.Eq{Names: times(api.MaxDecls, longName), Node: longName, S: times[api.Size](api.MaxSizes, most), E: times(api.MaxDecls, e)}
	if text, fault := Print(program(node(call))); text != "" || fault != (api.Fault{Code: api.ErrMany, At: -1}) {
		t.Errorf("one equation: %d bytes, fault %v", len(text), fault)
	}
	full := program(times(api.MaxNodes, node(times(api.MaxEqs, call)...))...)
	if text, fault := Print(full); text != "" || fault != (api.Fault{Code: api.ErrMany, At: -1}) {
		t.Errorf("%d bytes, fault %v", len(text), fault)
	}
}

// P1: parts without end, and far more of them than memory holds.
func TestCheckSharedParts(t *testing.T) {
	round := api.Expr{Op: api.XUn, K: api.KNeg, L: make([]api.Expr, 1)}
	round.L[0] = round
	wantFault(t, "within itself", one(round), api.ErrMany, 0)
	wide := api.Expr{Op: api.XIf, L: make([]api.Expr, 3)}
	wide.L[0], wide.L[1], wide.L[2] = wide, num(1), wide
	wantFault(t, "twice within itself", program(node(plain(num(0))), node(plain(wide))), api.ErrMany, 1)
	e := name("a")
	for range 200 {
		e = bin(api.KAdd, e, e)
	}
	wantFault(t, "doubled", one(e), api.ErrMany, 0)
	e = bin(api.KMul, a, num(1))
	twice := bin(api.KSub, e, e)
	wantExpr(t, bin(api.KAdd, twice, twice), "a * 1 - a * 1 + (a * 1 - a * 1)")
}

// copied answers the same program in memory of its own, each list with one
// thing behind its length.
func copied(p api.Program) api.Program {
	return api.Program{Nodes: copiedList(p.Nodes, func(n api.Node) api.Node {
		n.Sizes = copiedList(n.Sizes, strings.Clone)
		n.In, n.Out, n.Local = copiedList(n.In, copiedDecl), copiedList(n.Out, copiedDecl), copiedList(n.Local, copiedDecl)
		n.Eqs = copiedList(n.Eqs, func(q api.Eq) api.Eq {
			q.Names, q.S, q.E = copiedList(q.Names, strings.Clone), copiedList(q.S, copiedSize), copiedList(q.E, copiedExpr)
			return q
		})
		return n
	})}
}

func copiedList[T any](list []T, copyOne func(T) T) []T {
	longer := make([]T, 0, len(list)+1)
	for _, thing := range list {
		longer = append(longer, copyOne(thing))
	}
	return longer
}

func copiedDecl(d api.Decl) api.Decl {
	d.T.N = copiedSize(d.T.N)
	return d
}

func copiedSize(s api.Size) api.Size {
	return copiedList(s, func(t api.Term) api.Term { return t })
}

func copiedExpr(e api.Expr) api.Expr {
	e.S, e.L = copiedList(e.S, copiedSize), copiedList(e.L, copiedExpr)
	return e
}

// longer answers a program's lists with what lies behind their lengths.
func longer(p api.Program) api.Program {
	p.Nodes = stretched(p.Nodes, func(n *api.Node) {
		n.Sizes = stretched(n.Sizes, func(*string) {})
		for _, decls := range lists(n) {
			*decls = stretched(*decls, func(d *api.Decl) { d.T.N = stretched(d.T.N, func(*api.Term) {}) })
		}
		n.Eqs = stretched(n.Eqs, func(q *api.Eq) {
			q.Names = stretched(q.Names, func(*string) {})
			q.S = stretched(q.S, stretchSize)
			q.E = stretched(q.E, stretchExpr)
		})
	})
	return p
}

func stretched[S ~[]T, T any](list S, stretchOne func(*T)) S {
	all := slices.Clone(list[:cap(list)])
	for j := range all {
		stretchOne(&all[j])
	}
	return all
}

func stretchSize(s *api.Size) { *s = stretched(*s, func(*api.Term) {}) }

func stretchExpr(e *api.Expr) {
	e.S = stretched(e.S, stretchSize)
	e.L = stretched(e.L, stretchExpr)
}

// What holds everywhere: what is handed in stays as it was, and so does what
// lies behind its lists.
func TestHandedInStays(t *testing.T) {
	programs := []api.Program{sample(), ofLength(api.MaxText), ofLength(api.MaxText + 1)}
	for _, s := range spoilings() {
		p := sample()
		s.spoil(&p)
		programs = append(programs, p)
	}
	d := dice(3)
	for range 200 {
		programs = append(programs, d.program())
	}
	for _, p := range programs {
		given := copied(p)
		ahead := longer(given)
		Check(given)
		Print(given)
		if !reflect.DeepEqual(longer(given), ahead) {
			t.Errorf("%v is changed", p)
		}
		if !syntax.Same(p, given) {
			t.Errorf("%v is not what it was", p)
		}
	}
}

// What holds everywhere: what lies behind a list's length is not read.
func TestBehindListsIsNotRead(t *testing.T) {
	wrong := []api.Expr{num(1), num(-1), num(-1)}
	q := api.Eq{Names: []string{"b", "B"}[:1], E: wrong[:1]}
	n := api.Node{Name: "a", Sizes: []string{"n", "N"}[:1], Out: []api.Decl{decl("b"), decl("B")}[:1], Eqs: []api.Eq{q, {}}[:1]}
	wantText(t, program([]api.Node{n, {}}[:1]...), "node a<n>() -> (b: int) {\n\tb = 1;\n}\n")
}

// whatever makes a program of fields that are often wrong.
func (d *dice) whatever() api.Program {
	p := d.program()
	for range d.below(4) {
		n := &p.Nodes[d.below(len(p.Nodes))]
		d.spoilNode(n)
	}
	return p
}

func (d *dice) number() int64 {
	return []int64{0, 1, 2, -1, api.MaxNum, -api.MaxNum, math.MaxInt64, math.MinInt64, 16}[d.below(9)]
}

func (d *dice) spoilNode(n *api.Node) {
	switch d.below(8) {
	case 0:
		n.Name = badNames[d.below(len(badNames))]
	case 1:
		n.Sizes = append(n.Sizes, badNames[d.below(len(badNames))])
	case 2:
		n.Out = nil
	case 3:
		l := lists(n)[d.below(3)]
		*l = append(*l, api.Decl{Name: d.name(), T: api.Type{Elem: byte(d.below(256)), N: api.Size{{N: d.number(), Name: d.name()}}}})
	default:
		q := d.eq()
		if d.below(3) == 0 {
			q.Names = q.Names[:d.below(len(q.Names)+1)]
		}
		for j := range q.E {
			d.spoilExpr(&q.E[j])
		}
		n.Eqs = append(n.Eqs, q)
	}
}

func (d *dice) spoilExpr(e *api.Expr) {
	if len(e.L) > 0 && d.below(4) > 0 {
		d.spoilExpr(&e.L[d.below(len(e.L))])
		return
	}
	switch d.below(6) {
	case 0:
		e.Op = int(d.number())
	case 1:
		e.K = int(d.number())
	case 2:
		e.N = d.number()
	case 3:
		e.L = append(e.L, d.expr(3))
	case 4:
		e.S = append(e.S, nil)
	case 5:
		e.Name = badNames[d.below(len(badNames))]
	}
}

// P1: every call ends without a panic, and answers the same again: a text out
// of which the program comes, or a fault.
func TestCallsAlwaysAnswer(t *testing.T) {
	d := dice(4)
	faults := map[int]int{}
	for range 20000 {
		p := d.whatever()
		text, fault := Print(p)
		again, faultAgain := Print(copied(p))
		if text != again || fault != faultAgain || fault != Check(p) || fault.Code == 0 && fault.At != 0 {
			t.Fatalf("%v: %q and %q, faults %v and %v", p, text, again, fault, faultAgain)
		}
		if back, parseFault := syntax.Parse(text); fault.Code == 0 && (parseFault.Code != 0 || !syntax.Same(p, back)) {
			t.Fatalf("%v: not out of %q", p, text)
		}
		if fault.Code != 0 && text != "" {
			t.Fatalf("%v: %q beside a fault", p, text)
		}
		faults[fault.Code]++
	}
	for _, code := range []int{0, api.ErrNumber, api.ErrName, api.ErrForm, api.ErrMany, api.ErrType} {
		if faults[code] < 10 {
			t.Errorf("the code %d comes %d times alone: these programs try too little", code, faults[code])
		}
	}
}
