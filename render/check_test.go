package render

import (
	"math"
	"slices"
	"strconv"
	"testing"

	"loomwork/api"
)

// P3.1: of the whole program: no nodes, MaxNodes, and one more.
func TestCheckNodes(t *testing.T) {
	wantFault(t, "no list", api.Program{}, api.ErrNone, -1)
	wantFault(t, "an empty list", api.Program{Nodes: []api.Node{}}, api.ErrNone, -1)
	for n := 1; n <= api.MaxNodes; n++ {
		wantBack(t, strconv.Itoa(n)+" nodes", program(times(n, node())...))
	}
	wantFault(t, "one node more", program(times(api.MaxNodes+1, node())...), api.ErrMany, -1)
	wantFault(t, "far more nodes", program(times(1000, api.Node{})...), api.ErrMany, -1)
}

// atEachNode asks for a fault of a node at each place that a node may have.
func atEachNode(t *testing.T, what string, bad api.Node, code int) {
	t.Helper()
	for at := range api.MaxNodes {
		nodes := times(api.MaxNodes, node(plain(num(1)), plain(num(2))))
		nodes[at] = bad
		wantFault(t, what, program(nodes...), code, -2-at)
	}
}

// P3.1: a node's name, sizes, equations and outputs.
func TestCheckHeads(t *testing.T) {
	for _, bad := range badNames {
		n := node()
		n.Name = bad
		atEachNode(t, "name "+bad, n, api.ErrName)
		for at := range api.MaxSizes {
			n = node()
			n.Sizes = times(api.MaxSizes, longName)
			n.Sizes[at] = bad
			atEachNode(t, "size "+bad, n, api.ErrName)
		}
	}
	for count := range api.MaxSizes + 1 {
		n := node()
		n.Name = longName
		n.Sizes = times(count, longName)
		wantBack(t, strconv.Itoa(count)+" sizes", program(n))
	}
	n := node()
	n.Sizes = times(api.MaxSizes+1, "n")
	atEachNode(t, "one size more", n, api.ErrMany)
	wantBack(t, "MaxEqs equations", program(node(times(api.MaxEqs, plain(num(1)))...)))
	atEachNode(t, "one equation more", node(times(api.MaxEqs+1, plain(num(1)))...), api.ErrMany)
	for _, out := range [][]api.Decl{nil, {}} {
		atEachNode(t, "no outputs", api.Node{Name: "a", In: []api.Decl{decl("b")}, Out: out}, api.ErrForm)
	}
}

// lists answers inputs, outputs and locals, to be changed.
func lists(n *api.Node) []*[]api.Decl { return []*[]api.Decl{&n.In, &n.Out, &n.Local} }

// P3.1: inputs, outputs and locals: how many, names, types.
func TestCheckDecls(t *testing.T) {
	for i := range 3 {
		spoilt := func(decls []api.Decl) api.Node {
			n := node()
			*lists(&n)[i] = decls
			return n
		}
		wantBack(t, "MaxDecls", program(spoilt(times(api.MaxDecls, decl("b")))))
		atEachNode(t, "one more", spoilt(times(api.MaxDecls+1, decl("b"))), api.ErrMany)
		wantBack(t, "a long name", program(spoilt([]api.Decl{decl(longName)})))
		for _, bad := range badNames {
			atEachNode(t, "name "+bad, spoilt([]api.Decl{decl("b"), decl(bad)}), api.ErrName)
		}
		for elem := range 256 {
			n := spoilt([]api.Decl{decl("b"), {Name: "c", T: api.Type{Elem: byte(elem)}}})
			if elem == 'i' || elem == 'b' {
				wantBack(t, "Elem", program(n))
			} else {
				atEachNode(t, "Elem "+strconv.Itoa(elem), n, api.ErrType)
			}
		}
	}
}

// places make programs with a size in each of the places that sizes have; At is
// where a fault of it is told.
var places = []struct {
	what string
	at   int
	with func(s api.Size) api.Program
}{
	{"an input's", -3, func(s api.Size) api.Program { return declared(0, s) }},
	{"an output's", -3, func(s api.Size) api.Program { return declared(1, s) }},
	{"a local's", -3, func(s api.Size) api.Program { return declared(2, s) }},
	{"a call's first", 2, func(s api.Size) api.Program {
		return program(node(plain(num(0)), plain(num(1))), node(api.Eq{Names: []string{"b"}, Node: "a", S: []api.Size{s, size("n")}}))
	}},
	{"a call's last", 1, func(s api.Size) api.Program {
		return program(node(), node(plain(num(0)), api.Eq{Names: []string{"b"}, Node: "a", S: []api.Size{size("n"), size("m"), s}}))
	}},
	{"fill's", 0, func(s api.Size) api.Program { return one(fill(num(0), s)) }},
	{"slice's first", 0, func(s api.Size) api.Program { return one(slice(name("a"), s, size("n"))) }},
	{"slice's second", 0, func(s api.Size) api.Program { return one(slice(name("a"), size("n"), s)) }},
	{"within a part's", 1, func(s api.Size) api.Program {
		return program(node(plain(num(0))), node(plain(op(api.XCat, 0, name("a"), op(api.XUn, api.KNeg, fill(num(0), s))))))
	}},
}

// declared is a program of two nodes, the second of which has a declaration of
// that size behind another one.
func declared(list int, s api.Size) api.Program {
	n := node()
	*lists(&n)[list] = []api.Decl{decl("b"), {Name: "c", T: api.Type{Elem: 'b', N: s}}}
	return program(node(), n)
}

// P3.1: sizes, in every place that they have.
func TestCheckSizes(t *testing.T) {
	for _, place := range places {
		for _, none := range []api.Size{nil, {}} {
			if place.at == -3 {
				wantBack(t, place.what+" is none", place.with(none))
			} else {
				wantFault(t, place.what+" has no terms", place.with(none), api.ErrForm, place.at)
			}
		}
		wantBack(t, place.what+" of MaxTerms", place.with(times(api.MaxTerms, api.Term{N: -2, Name: "n"})))
		wantFault(t, place.what+" of one term more", place.with(times(api.MaxTerms+1, api.Term{})), api.ErrMany, place.at)
		for _, n := range []int64{0, 1, -1, 2, -2, api.MaxNum - 1, 1 - api.MaxNum} {
			for _, s := range []string{"", "n", longName} {
				wantBack(t, place.what, place.with(api.Size{{N: n, Name: s}, {N: n, Name: s}}))
			}
		}
		for _, n := range []int64{api.MaxNum, -api.MaxNum, api.MaxNum + 1, math.MaxInt64, math.MinInt64, math.MinInt64 + 1} {
			for _, s := range []string{"", "n", "N"} {
				wantFault(t, place.what+" number", place.with(api.Size{{N: 1}, {N: n, Name: s}}), api.ErrNumber, place.at)
			}
		}
		for _, bad := range badNames[1:] {
			wantFault(t, place.what+" name "+bad, place.with(api.Size{{N: 1}, {N: 1, Name: bad}}), api.ErrName, place.at)
		}
		wantFault(t, place.what+" first term", place.with(api.Size{{N: 1, Name: "N"}, {N: api.MaxNum}}), api.ErrName, place.at)
		wantFault(t, place.what+" first term", place.with(api.Size{{N: api.MaxNum}, {N: 1, Name: "N"}}), api.ErrNumber, place.at)
	}
}

// atEachEq asks for a fault of an equation at its number, through the nodes.
func atEachEq(t *testing.T, what string, bad api.Eq, code int) {
	t.Helper()
	for at := range 7 {
		eqs := times(7, plain(num(1)))
		eqs[at] = bad
		wantFault(t, what, program(node(eqs[:2]...), node(), node(eqs[2:3]...), node(eqs[3:]...)), code, at)
	}
}

// P3.1: equations: what they must have, and how many they may have.
func TestCheckEquations(t *testing.T) {
	b, e, s := []string{"b"}, []api.Expr{num(1)}, []api.Size{size("n")}
	forms := map[string]api.Eq{
		"nothing":             {},
		"no names":            {E: e},
		"an empty list":       {Names: []string{}, E: e},
		"a call, no names":    {Node: "a", E: e},
		"two names":           {Names: []string{"b", "c"}, E: e},
		"no E":                {Names: b},
		"an empty list of E":  {Names: b, E: []api.Expr{}},
		"two E":               {Names: b, E: append(e, e...)},
		"a size":              {Names: b, S: s, E: e},
		"a size without E":    {Names: b, S: s},
		"far too many names":  {Names: times(api.MaxDecls+1, "b"), E: e},
		"far too many E":      {Names: b, E: times(api.MaxDecls+1, num(1))},
		"far too many sizes":  {Names: b, S: times(api.MaxSizes+1, s[0]), E: e},
		"names that are none": {Names: []string{"B", "C"}, E: e},
	}
	for what, q := range forms {
		atEachEq(t, what, q, api.ErrForm)
	}
	atEachEq(t, "names", api.Eq{Names: times(api.MaxDecls+1, "b"), Node: "a"}, api.ErrMany)
	atEachEq(t, "E", api.Eq{Names: b, Node: "a", E: times(api.MaxDecls+1, num(1))}, api.ErrMany)
	atEachEq(t, "sizes", api.Eq{Names: b, Node: "a", S: times(api.MaxSizes+1, s[0])}, api.ErrMany)
	wantBack(t, "as many as may be", program(node(api.Eq{Names: times(api.MaxDecls, "b"), Node: "a", S: times(api.MaxSizes, s[0]), E: times(api.MaxDecls, num(1))})))
	wantBack(t, "as few as may be", program(node(api.Eq{Names: b, Node: "a", S: []api.Size{}, E: []api.Expr{}})))
	wantBack(t, "a size in a call without E", program(node(api.Eq{Names: b, Node: "a", S: s})))
}

// P3.1: names ahead of a "=", and that of the node that is called.
func TestCheckEquationNames(t *testing.T) {
	e := []api.Expr{num(1)}
	wantBack(t, "long", program(node(api.Eq{Names: []string{longName, longName}, Node: longName, E: e})))
	for _, bad := range badNames {
		atEachEq(t, "name "+bad, api.Eq{Names: []string{bad}, E: e}, api.ErrName)
		atEachEq(t, "first name "+bad, api.Eq{Names: []string{bad, "b"}, Node: "a"}, api.ErrName)
		atEachEq(t, "last name "+bad, api.Eq{Names: []string{"b", "c", bad}, Node: "a"}, api.ErrName)
		if bad != "" {
			atEachEq(t, "node "+bad, api.Eq{Names: []string{"b"}, Node: bad}, api.ErrName)
		}
		atEachEq(t, "part "+bad, plain(name(bad)), api.ErrName)
	}
	wantBack(t, "a long part", one(name(longName)))
}

// P3.1: numbers of XNum and XTruth.
func TestCheckNumbers(t *testing.T) {
	for _, n := range []int64{0, 1, 9, 10, api.MaxNum - 1} {
		wantBack(t, strconv.FormatInt(n, 10), one(num(n)))
	}
	for _, n := range []int64{-1, api.MaxNum, api.MaxNum + 1, -api.MaxNum, math.MaxInt64, math.MinInt64} {
		atEachEq(t, strconv.FormatInt(n, 10), plain(num(n)), api.ErrNumber)
		atEachEq(t, strconv.FormatInt(n, 10), plain(truth(n)), api.ErrForm)
		atEachEq(t, strconv.FormatInt(n, 10), plain(api.Expr{Op: api.XName, Name: "a", N: n}), api.ErrForm)
	}
	wantBack(t, "false", one(truth(0)))
	wantBack(t, "true", one(truth(1)))
	atEachEq(t, "2", plain(truth(2)), api.ErrForm)
}

// plainCode says what is wrong with an expression whose parts and sizes are
// right, word by word as the chapter does.
func plainCode(e api.Expr) int {
	parts, sizes, first, last := 0, 0, 0, 0
	switch e.Op {
	case api.XNum, api.XTruth, api.XName:
	case api.XUn:
		parts, first, last = 1, api.KNeg, api.KNot
	case api.XBin:
		parts, first, last = 2, api.KAdd, api.KXor
	case api.XMap:
		parts, first, last = min(max(len(e.L), 1), 2), api.KAdd, api.KNot
	case api.XFold, api.XScan:
		parts, first, last = 2, api.KAdd, api.KNot
	case api.XFill:
		parts, sizes = 1, 1
	case api.XSlice:
		parts, sizes = 1, 2
	case api.XIf, api.XIndex, api.XWith:
		parts = 3
	case api.XCat, api.XPre:
		parts = 2
	default:
		return api.ErrForm
	}
	if len(e.L) != parts || len(e.S) != sizes || e.K < first || e.K > last ||
		e.Op != api.XNum && e.Op != api.XTruth && e.N != 0 || e.Op == api.XTruth && e.N != 0 && e.N != 1 ||
		e.Op != api.XName && e.Name != "" {
		return api.ErrForm
	}
	if e.Op == api.XName && (e.Name == "" || e.Name == "A") {
		return api.ErrName
	}
	if e.N < 0 || e.N >= api.MaxNum {
		return api.ErrNumber
	}
	return 0
}

// P3.1: expressions with whatever fields, alone and as parts of others.
func TestCheckEveryShape(t *testing.T) {
	shape := func(op, k, parts, sizes int) {
		for _, n := range []int64{-1, 0, 1, 2, api.MaxNum} {
			for _, s := range []string{"", "a", "A"} {
				e := api.Expr{Op: op, K: k, N: n, Name: s, L: times(parts, name("a")), S: times(sizes, size("n"))}
				want := api.Fault{Code: plainCode(e)}
				if got := Check(one(e)); got != want {
					t.Fatalf("%v: fault %v, want %v", e, got, want)
				}
				within := program(node(), node(plain(num(1)), plain(api.Expr{Op: api.XPre, L: []api.Expr{num(1), e}})))
				if want.Code != 0 {
					want.At = 1
				}
				if got := Check(within); got != want {
					t.Fatalf("%v as a part: fault %v, want %v", e, got, want)
				}
			}
		}
	}
	for op := -1; op <= api.XPre+2; op++ {
		for k := -1; k <= api.KNot+2; k++ {
			for parts := range 5 {
				for sizes := range 4 {
					shape(op, k, parts, sizes)
				}
			}
		}
	}
	for _, far := range []int{math.MinInt, -1000, 1000, 1 << 32, math.MaxInt} {
		wantFault(t, "far Op", one(api.Expr{Op: far}), api.ErrForm, 0)
		wantFault(t, "far K", one(op(api.XUn, far, name("a"))), api.ErrForm, 0)
		wantFault(t, "far K", one(op(api.XMap, far, name("a"))), api.ErrForm, 0)
	}
}

// chain is an expression of n parts, each within the one ahead.
func chain(n int) api.Expr {
	e := name("a")
	for range n - 1 {
		e = op(api.XUn, api.KNot, e)
	}
	return e
}

// sum is an expression of n parts (n odd), the most of them side by side.
func sum(n int) api.Expr {
	e := name("a")
	for range n / 2 {
		e = op(api.XBin, api.KAdd, e, name("b"))
	}
	return e
}

// P3.1: MaxTerms parts, and one more, of each E.
func TestCheckManyParts(t *testing.T) {
	for _, e := range []api.Expr{chain(api.MaxTerms), sum(api.MaxTerms - 1), op(api.XUn, api.KNeg, sum(api.MaxTerms-1))} {
		wantBack(t, "MaxTerms", one(e))
		wantBack(t, "each of MaxTerms", program(node(api.Eq{Names: []string{"b"}, Node: "a", E: times(api.MaxDecls/2, e)})))
	}
	bad := num(-1)
	for _, e := range []api.Expr{
		chain(api.MaxTerms + 1), sum(api.MaxTerms + 1), op(api.XMap, api.KNeg, chain(api.MaxTerms)), chain(1 << 16), sum(1<<16 - 1),
		op(api.XIf, 0, sum(9), sum(9), sum(11), sum(1)),
		{Op: 99, L: times(api.MaxTerms, bad)}, {L: times(1<<20, bad)}, op(api.XUn, api.KNeg, times(api.MaxTerms, bad)...),
	} {
		atEachEq(t, "one more", plain(e), api.ErrMany)
		atEachEq(t, "one more in a call", api.Eq{Names: []string{"b"}, Node: "a", E: []api.Expr{num(1), e}}, api.ErrMany)
	}
	atEachEq(t, "no more, but of no kind", plain(api.Expr{Op: 99, L: times(api.MaxTerms-1, bad)}), api.ErrForm)
}

// P3.1: of several faults in one E the first, part by part, each ahead of those
// within it; a whole E ahead of the next one.
func TestCheckFirstPart(t *testing.T) {
	form, noName, noNumber, noSize := api.Expr{}, name("A"), num(-1), fill(num(1), nil)
	badTerm := fill(noName, api.Size{{N: api.MaxNum}})
	first := map[int][]api.Expr{
		api.ErrForm: {
			form, noSize, op(api.XBin, api.KAdd, form, noName), op(api.XBin, api.KNeg, noName, noNumber), op(api.XUn, api.KNeg, noSize, noName),
			op(api.XIf, 0, name("a"), op(api.XCat, 0, name("a"), form), noName), fill(noName, nil), slice(noName, nil, api.Size{{N: api.MaxNum}}),
			op(api.XBin, api.KAdd, fill(name("a"), nil), noName), {Op: api.XName, Name: "A", N: 1}, {Op: api.XNum, N: -1, K: 1}, {Op: api.XFill, K: 1, S: badTerm.S, L: badTerm.L},
		},
		api.ErrName: {
			noName, op(api.XBin, api.KAdd, noName, noNumber), op(api.XIf, 0, op(api.XPre, 0, num(1), noName), form, noNumber),
			op(api.XIndex, 0, noName, op(api.XCat, 0, form), num(1)), fill(num(-1), api.Size{{N: 1, Name: "N"}}), op(api.XCat, 0, op(api.XUn, api.KNot, noName), form),
		},
		api.ErrNumber: {
			noNumber, op(api.XBin, api.KAdd, noNumber, noName), badTerm, op(api.XWith, 0, num(1), noNumber, form), op(api.XCat, 0, badTerm, form),
			slice(noName, api.Size{{N: api.MaxNum}}, nil), slice(form, size("n"), api.Size{{N: 1}, {N: -api.MaxNum}, {Name: "N"}}),
		},
		api.ErrMany: {
			fill(form, times(api.MaxTerms+1, api.Term{N: api.MaxNum})), op(api.XCat, 0, fill(num(1), times(api.MaxTerms+1, api.Term{})), form), chain(api.MaxTerms + 1),
		},
	}
	for code, exprs := range first {
		for i, e := range exprs {
			what := "code " + strconv.Itoa(code) + " number " + strconv.Itoa(i)
			atEachEq(t, what, plain(e), code)
			for _, behind := range slices.Concat(first[api.ErrForm], first[api.ErrName], first[api.ErrNumber], first[api.ErrMany]) {
				q := api.Eq{Names: []string{"b"}, Node: "a", E: []api.Expr{num(1), e, behind}}
				wantFault(t, what+", another behind it", program(node(q)), code, 0)
			}
		}
	}
}
