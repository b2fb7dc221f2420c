package fuse

import (
	"fmt"
	"slices"
	"strings"
	"testing"

	"loomwork/api"
	"loomwork/order"
	"loomwork/sys"
)

// node is a step with those that make what it takes.
type node struct {
	api.Push
	of []*node
}

func readTree(steps []api.Push) *node {
	takes := map[int]int{api.PUn: 1, api.PBin: 2, api.PAt: 2, api.PSel: 3}
	var stack []*node
	for _, p := range steps {
		rest := len(stack) - takes[p.Op]
		stack = append(stack[:rest], &node{p, slices.Clone(stack[rest:])})
	}
	return stack[0]
}

func (n *node) steps() []api.Push {
	var list []api.Push
	n.walk(func(each *node) { list = append(list, each.Push) })
	return list
}

// walk hands each node of a tree to the function, in the order of the steps.
func (n *node) walk(do func(*node)) {
	for _, part := range n.of {
		part.walk(do)
	}
	do(n)
}

// saidRule is a rule with its tree, if it has one.
type saidRule struct {
	api.Rule
	tree *node
	gone bool
}

// saidForms are the trees of chapter 11's point 1: numbers are [A0], [A1], [A2].
var saidForms = map[int]string{
	api.QNum: "number", api.QCopy: "0", api.QFill: "0", api.QUn: "0 un", api.QBin: "0 1 bin", api.QIf: "0 1 2 sel", api.QIndex: "1 2 at",
	api.QWith: "idx 1 eq 2 0 sel", api.QSlice: "slice", api.QFold: "1", api.QScan: "1",
}

func saidStep(s api.System, r api.Rule, word string) api.Push {
	switch word {
	case "number":
		return api.Push{Op: api.PNum, K: strings.Index("ib", string(s.Vars[r.Out].Elem)), N: r.N}
	case "slice":
		return arr(r.A[0], r.N)
	case "un":
		return un(r.K)
	case "bin":
		return bin(r.K)
	case "sel":
		return sel()
	case "at":
		return at(r.A[0])
	case "idx":
		return idx(0)
	case "eq":
		return bin(api.KEq)
	}
	variable := r.A[word[0]-'0']
	if s.Vars[variable].N > 0 {
		return arr(variable, 0)
	}
	return sca(variable)
}

// saidNormal is what point 1 says of a rule.
func saidNormal(s api.System, r api.Rule) *saidRule {
	form, changes := saidForms[r.Op]
	if !changes {
		said := &saidRule{Rule: order.Own(r)}
		if r.Op >= api.QEach {
			said.tree = readTree(r.E)
		}
		return said
	}
	var steps []api.Push
	for _, word := range strings.Fields(form) {
		steps = append(steps, saidStep(s, r, word))
	}
	said := &saidRule{Rule: each(r.Out), tree: readTree(steps)}
	switch r.Op {
	case api.QFold:
		said.Rule = foldE(r.K, r.Out, int64(s.Vars[r.A[1]].N), r.A[0])
	case api.QScan:
		said.Rule = scanE(r.K, r.Out, r.A[0])
	}
	return said
}

func saidRules(s api.System) []*saidRule {
	var rules []*saidRule
	for _, r := range s.Rules {
		rules = append(rules, saidNormal(s, r))
	}
	return rules
}

// saidUse is where a variable is used: a step, or, without one, A.
type saidUse struct {
	by   int
	step *node
}

func saidUses(rules []*saidRule, variable int) []saidUse {
	var uses []saidUse
	for number, r := range rules {
		if r.gone {
			continue
		}
		for _, v := range r.A {
			if v == variable {
				uses = append(uses, saidUse{by: number})
			}
		}
		if r.tree == nil {
			continue
		}
		r.tree.walk(func(n *node) {
			if n.V == variable && slices.Contains([]int{api.PSca, api.PArr, api.PAt}, n.Op) {
				uses = append(uses, saidUse{by: number, step: n})
			}
		})
	}
	return uses
}

// whyStays names the first reason of point 2 for which a rule stays; "" if it goes to
// where it is used.
func whyStays(s api.System, rules []*saidRule, number int) (why string, to saidUse) {
	r := rules[number]
	if r.Op != api.QEach {
		return "Op", to
	}
	if slices.Contains(s.Out, r.Out) {
		return "Out", to
	}
	uses := saidUses(rules, r.Out)
	if len(uses) != 1 {
		return fmt.Sprint(min(2, len(uses)), " uses"), to
	}
	to = uses[0]
	user := rules[to.by]
	switch {
	case to.by <= number:
		return "ahead", to
	case to.step == nil:
		return "A", to
	case to.step.Op == api.PAt:
		return "PAt", to
	case len(user.tree.steps())-1+len(r.tree.steps()) > api.MaxTree:
		return "MaxTree", to
	}
	for _, p := range r.tree.steps() {
		if p.Op == api.PIdx && to.step.Op == api.PArr && p.N+to.step.N > 1000000 {
			return "PIdx", to
		}
	}
	isPlain := len(r.tree.of) == 0 && (r.tree.Op == api.PNum || r.tree.Op == api.PSca)
	isIntoScalar := user.Op == api.QEach && s.Vars[user.Out].N == 0
	if s.Vars[r.Out].N == 0 && !isIntoScalar && !isPlain {
		return "scalar", to
	}
	return "", to
}

// fuseSaid does what point 2 says, and counts why rules stayed, and that they went.
func fuseSaid(s api.System, rules []*saidRule, count map[string]int) {
	for number, r := range rules {
		why, to := whyStays(s, rules, number)
		count[why]++
		if why != "" {
			continue
		}
		if by := to.step.N; to.step.Op == api.PArr {
			r.tree.walk(func(n *node) {
				if n.Op == api.PArr || n.Op == api.PIdx {
					n.N += by
				}
			})
		}
		*to.step, r.gone = *r.tree, true
	}
}

// written are the rules that are left, as rules.
func written(rules []*saidRule) []api.Rule {
	var list []api.Rule
	for _, r := range rules {
		if r.gone {
			continue
		}
		if r.tree != nil {
			r.E = r.tree.steps()
		}
		list = append(list, r.Rule)
	}
	return list
}

func saidFused(s api.System) []api.Rule {
	rules := saidRules(s)
	fuseSaid(s, rules, map[string]int{})
	return written(rules)
}

// holdAgainstSaid is handed systems alone.
func holdAgainstSaid(t *testing.T, what string, s api.System, count map[string]int) {
	t.Helper()
	wantSame(t, what+": Norm", normOf(t, what, s), with(s, written(saidRules(s))...))
	rules := saidRules(s)
	fuseSaid(s, rules, count)
	wantSame(t, what+": Fuse", fusedOf(t, what, s), with(s, written(rules)...))
	if t.Failed() {
		t.Fatalf("%s: %.3000s", what, plain(s))
	}
}

// P11: systems of all kinds of rules, held against the chapter's words reckoned
// another way.
func TestThrownSaid(t *testing.T) {
	count, seen, steps := map[string]int{}, map[int]int{}, map[int]int{}
	for i := range 30000 {
		s := thrown(i, 14)
		wantSame(t, fmt.Sprint("thrown ", i, " is a system"), sys.Check(s), api.Fault{})
		holdAgainstSaid(t, fmt.Sprint("thrown ", i), s, count)
		for _, r := range s.Rules {
			seen[r.Op]++
			for _, p := range r.E {
				steps[p.Op]++
			}
		}
	}
	for _, why := range []string{"", "Op", "Out", "0 uses", "2 uses", "ahead", "A", "PAt", "MaxTree", "PIdx", "scalar"} {
		if count[why] < 100 {
			t.Errorf("%q was so %d times alone", why, count[why])
		}
	}
	for op := api.QNum; op <= api.QScanE; op++ {
		if seen[op] < 1000 {
			t.Errorf("the Op %d was seen %d times alone", op, seen[op])
		}
	}
	for op := api.PNum; op <= api.PAt; op++ {
		if steps[op] < 1000 {
			t.Errorf("the step %d was seen %d times alone", op, steps[op])
		}
	}
}

// P11.2: all systems of up to three rules that make numbers, or arrays, of one
// another, whatever is Out.
func TestAllLinks(t *testing.T) {
	count := map[string]int{}
	for rules := range 4 {
		for links := range 1 << (rules * rules) {
			for told := range 1 << rules {
				s := linked(rules, links, told)
				what := fmt.Sprint(rules, " rules, links ", links, ", Out ", told)
				s.Vars = slices.Repeat(types("i"), rules)
				holdAgainstSaid(t, what, asScalars(s), count)
				s.Vars = slices.Repeat(types("i2"), rules)
				holdAgainstSaid(t, what+", of arrays", s, count)
			}
		}
	}
	if count[""] < 1000 || count["ahead"] < 1000 || count["2 uses"] < 1000 {
		t.Errorf("why: %v", count)
	}
}

// linked has rules of arrays, of which each one uses those that its bits of links
// name; the bits of told are what is Out.
func linked(count, links, told int) api.System {
	s := api.System{}
	for out := range count {
		steps := []api.Push{num(int64(out))}
		for v := range count {
			if links>>(out*count+v)&1 == 1 {
				steps = append(steps, arr(v, 0), add())
			}
		}
		s.Rules = append(s.Rules, each(out, steps...))
		if told>>out&1 == 1 {
			s.Out = append(s.Out, out)
		}
	}
	return s
}

func asScalars(s api.System) api.System {
	rules := s.Rules
	s.Rules = nil
	for _, r := range rules {
		r = order.Own(r)
		for i := range r.E {
			if r.E[i].Op == api.PArr {
				r.E[i].Op = api.PSca
			}
		}
		s.Rules = append(s.Rules, r)
	}
	return s
}
