package live

import (
	"fmt"
	"slices"
	"testing"

	"loomwork/api"
	"loomwork/dead"
	"loomwork/fuse"
	"loomwork/order"
	"loomwork/sys"
)

// saidNeeds tells whether a rule of a system needs a variable in one row, as chapter 8
// says it.
func saidNeeds(r api.Rule, variable int) bool {
	if r.Op == api.QPre {
		return r.A[0] == variable
	}
	if slices.Contains(r.A, variable) {
		return true
	}
	return r.Op >= api.QEach && slices.ContainsFunc(r.E, func(p api.Push) bool {
		return p.V == variable && (p.Op == api.PSca || p.Op == api.PArr || p.Op == api.PAt)
	})
}

// saidSpan is what chapter 12 says of one variable, word by word.
func saidSpan(s api.System, variable int) api.Span {
	maker := slices.IndexFunc(s.Rules, func(r api.Rule) bool { return r.Out == variable })
	if maker < 0 && !slices.Contains(s.In, variable) {
		return api.Span{From: 0, To: -1}
	}
	isKept := func(r api.Rule) bool { return r.Op == api.QPre && r.A[1] == variable }
	if slices.Contains(s.Out, variable) || slices.ContainsFunc(s.Rules, isKept) {
		return api.Span{From: maker, To: len(s.Rules)}
	}
	for last := len(s.Rules) - 1; last >= 0; last-- {
		if saidNeeds(s.Rules[last], variable) {
			return api.Span{From: maker, To: last}
		}
	}
	return api.Span{From: maker, To: maker}
}

// saidSorted tells whether no rule needs what it makes, or what one behind it makes.
func saidSorted(s api.System) bool {
	for number, r := range s.Rules {
		for _, other := range s.Rules[number:] {
			if saidNeeds(r, other.Out) {
				return false
			}
		}
	}
	return true
}

// saidMost: where spans have a place in common, they have one at which one of them
// begins.
func saidMost(s api.System, spans []api.Span) int {
	most := 0
	for _, first := range spans {
		cells := 0
		for v, span := range spans {
			if span.From > first.From || span.To < first.From {
				continue
			}
			cells += s.Vars[v].N
			if s.Vars[v].N == 0 {
				cells++
			}
		}
		most = max(most, cells)
	}
	return most
}

// holdAgainstSaid is handed systems alone; it tells whether they are sorted.
func holdAgainstSaid(t *testing.T, what string, s api.System) bool {
	t.Helper()
	isSorted := saidSorted(s)
	if isSorted {
		var spans []api.Span
		for v := range s.Vars {
			spans = append(spans, saidSpan(s, v))
		}
		wantLive(t, what, s, spans, saidMost(s, spans))
	} else {
		wantFault(t, what, s, api.ErrRound, -1)
	}
	if t.Failed() {
		t.Fatalf("%s: %.2000s", what, plain(s))
	}
	return isSorted
}

// P12: all systems of up to three rules that make numbers of one another, by sums or by
// QPre, whatever is Out.
func TestAllLinks(t *testing.T) {
	sorted, others := 0, 0
	for count := range 4 {
		for links := range 1 << (count * (count + 1)) {
			s := linked(count, links)
			for told := range 1 << (count + 1) {
				s.Out = nil
				for v := range count + 1 {
					if told>>v&1 == 1 {
						s.Out = append(s.Out, v)
					}
				}
				if holdAgainstSaid(t, fmt.Sprint(count, " rules, links ", links, ", Out ", told), s) {
					sorted++
				} else {
					others++
				}
			}
		}
	}
	if sorted != 2010 || others != 64056 {
		t.Errorf("%d are sorted, %d are not", sorted, others)
	}
}

// linked is a system of so many rules over as many variables and one that is In: a bit
// of links for each rule and each variable says whether it uses it. A rule that uses
// two is a QPre, of the lower one at first if its number is even.
func linked(count, links int) api.System {
	s := api.System{Vars: numbers(count + 1), In: []int{count}}
	for out := range count {
		var of []int
		for v := range count + 1 {
			if links>>(out*(count+1)+v)&1 == 1 {
				of = append(of, v)
			}
		}
		if len(of) != 2 {
			s.Rules = append(s.Rules, sum(out, of...))
			continue
		}
		if out%2 == 1 {
			slices.Reverse(of)
		}
		s.Rules = append(s.Rules, pre(out, of[0], of[1]))
	}
	return s
}

// P12: systems of all kinds of rules, held against the chapter's words.
func TestThrown(t *testing.T) {
	sorted, others, kept := 0, 0, 0
	for i := range 20000 {
		s := thrown(i, 16)
		wantSame(t, fmt.Sprint("thrown ", i, " is a system"), sys.Check(s), api.Fault{})
		if holdAgainstSaid(t, fmt.Sprint("thrown ", i), s) {
			sorted++
		} else {
			others++
		}
		if slices.ContainsFunc(s.Rules, func(r api.Rule) bool { return r.Op == api.QPre }) {
			kept++
		}
	}
	if sorted < 10000 || others < 2000 || kept < 5000 {
		t.Errorf("%d were sorted, %d were not, %d keep something", sorted, others, kept)
	}
}

// P12: of what the layers above answer: what is sorted, trimmed and fused.
func TestOfLayersAbove(t *testing.T) {
	for i := range 3000 {
		s, fault := order.Sort(thrown(i, 12))
		wantSame(t, "Sort's fault", fault, api.Fault{})
		trimmed, _ := dead.Trim(s)
		fused, _ := fuse.Fuse(trimmed)
		for _, of := range []api.System{s, trimmed, fused} {
			if !holdAgainstSaid(t, fmt.Sprint("thrown ", i), of) {
				t.Fatalf("thrown %d: not sorted", i)
			}
		}
	}
}
