package live

import (
	"fmt"
	"slices"
	"testing"

	"loomwork/api"
	"loomwork/dead"
	"loomwork/fuse"
	"loomwork/order"
	"loomwork/sys"
)

// saidNeeds tells whether a rule of a system needs a variable in one row, as chapter 8
// says it.
func saidNeeds(r api.Rule, variable int) bool {
	if r.Op == api.QPre {
		return r.A[0] == variable
	}
	if slices.Contains(r.A, variable) {
		return true
	}
	return r.Op >= api.QEach && slices.ContainsFunc(r.E, func(p api.Push) bool {
		return p.V == variable && (p.Op == api.PSca || p.Op == api.PArr || p.Op == api.PAt)
	})
}

// saidSpan is what chapter 12 says of one variable, word by word.
func saidSpan(s api.System, variable int) api.Span {
	maker := slices.IndexFunc(s.Rules, func(r api.Rule) bool { return r.Out == variable })
	if maker < 0 && !slices.Contains(s.In, variable) {
		return api.Span{From: 0, To: -1}
	}
	isKept := func(r api.Rule) bool { return r.Op == api.QPre && r.A[1] == variable }
	if slices.Contains(s.Out, variable) || slices.ContainsFunc(s.Rules, isKept) {
		return api.Span{From: maker, To: len(s.Rules)}
	}
	for last := len(s.Rules) - 1; last >= 0; last-- {
		if saidNeeds(s.Rules[last], variable) {
			return api.Span{From: maker, To: last}
		}
	}
	return api.Span{From: maker, To: maker}
}

// saidSorted tells whether no rule needs what it makes, or what one behind it makes.
func saidSorted(s api.System) bool {
	for number, r := range s.Rules {
		for _, other := range s.Rules[number:] {
			if saidNeeds(r, other.Out) {
				return false
			}
		}
	}
	return true
}

// saidMost: where spans have a place in common, they have one at which one of them
// begins.
func saidMost(s api.System, spans []api.Span) int {
	most := 0
	for _, first := range spans {
		cells := 0
		for v, span := range spans {
			if span.From > first.From || span.To < first.From {
				continue
			}
			cells += s.Vars[v].N
			if s.Vars[v].N == 0 {
				cells++
			}
		}
		most = max(most, cells)
	}
	return most
}

// holdAgainstSaid is handed systems alone; it tells whether they are sorted.
func holdAgainstSaid(t *testing.T, what string, s api.System) bool {
	t.Helper()
	isSorted := saidSorted(s)
	if isSorted {
		var spans []api.Span
		for v := range s.Vars {
			spans = append(spans, saidSpan(s, v))
		}
		wantLive(t, what, s, spans, saidMost(s, spans))
	} else {
		wantFault(t, what, s, api.ErrRound, -1)
	}
	if t.Failed() {
		t.Fatalf("%s: %.2000s", what, plain(s))
	}
	return isSorted
}

// P12: all systems of up to three rules that make numbers of one another, and of one
// that is In, by sums or by QPre; whatever is Out of those that are sorted.
func TestAllLinks(t *testing.T) {
	sorted, others := 0, 0
	for count := range 4 {
		eachChoice(count, len(choices(0, count+1)), func(chosen []int) {
			s := api.System{Vars: numbers(count + 1), In: []int{count}}
			for out, choice := range chosen {
				s.Rules = append(s.Rules, choices(out, count+1)[choice])
			}
			what := fmt.Sprint(count, " rules, choices ", chosen)
			if !holdAgainstSaid(t, what, s) {
				others++
				return
			}
			for _, told := range subsets(count + 1) {
				s.Out = told
				holdAgainstSaid(t, what, s)
				sorted++
			}
		})
	}
	if sorted < 10000 || others < 10000 {
		t.Errorf("%d are sorted, %d are not", sorted, others)
	}
}

// choices are all rules that make a number of the first so many: sums of some of them,
// and QPre of two.
func choices(out, count int) []api.Rule {
	var all []api.Rule
	for _, of := range subsets(count) {
		all = append(all, sum(out, of...))
	}
	for first := range count {
		for then := range count {
			all = append(all, pre(out, first, then))
		}
	}
	return all
}

func subsets(count int) [][]int {
	all := [][]int{nil}
	for v := range count {
		for _, set := range all {
			all = append(all, append(slices.Clone(set), v))
		}
	}
	return all
}

// eachChoice hands over all lists of so many numbers below most.
func eachChoice(count, most int, take func(chosen []int)) {
	chosen := make([]int, count)
	for {
		take(slices.Clone(chosen))
		at := 0
		for at < count && chosen[at] == most-1 {
			chosen[at] = 0
			at++
		}
		if at == count {
			return
		}
		chosen[at]++
	}
}

// P12: systems of all kinds of rules, held against the chapter's words.
func TestThrown(t *testing.T) {
	sorted, others, kept := 0, 0, 0
	for i := range 20000 {
		s := thrown(i, 16)
		wantSame(t, fmt.Sprint("thrown ", i, " is a system"), sys.Check(s), api.Fault{})
		if holdAgainstSaid(t, fmt.Sprint("thrown ", i), s) {
			sorted++
		} else {
			others++
		}
		if slices.ContainsFunc(s.Rules, func(r api.Rule) bool { return r.Op == api.QPre }) {
			kept++
		}
	}
	if sorted < 10000 || others < 2000 || kept < 5000 {
		t.Errorf("%d were sorted, %d were not, %d keep something", sorted, others, kept)
	}
}

// P12: of what the layers above answer: what is sorted, trimmed and fused.
func TestOfLayersAbove(t *testing.T) {
	for i := range 3000 {
		s, fault := order.Sort(thrown(i, 12))
		wantSame(t, "Sort's fault", fault, api.Fault{})
		trimmed, _ := dead.Trim(s)
		fused, _ := fuse.Fuse(trimmed)
		for _, of := range []api.System{s, trimmed, fused} {
			if !holdAgainstSaid(t, fmt.Sprint("thrown ", i), of) {
				t.Fatalf("thrown %d: not sorted", i)
			}
		}
	}
}
