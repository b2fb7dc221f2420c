package dead

import (
	"fmt"
	"slices"
	"testing"

	"loomwork/api"
	"loomwork/sys"
)

// saidUses is what a rule of a system uses, as the chapter says it.
func saidUses(r api.Rule, variable int) bool {
	if slices.Contains(r.A, variable) {
		return true
	}
	return r.Op >= api.QEach && slices.ContainsFunc(r.E, func(p api.Push) bool {
		return p.V == variable && (p.Op == api.PSca || p.Op == api.PArr || p.Op == api.PAt)
	})
}

// saidNeeded is what chapter 10 says of a system, reckoned another way: which rule
// leads to which, over as many others as may be.
func saidNeeded(s api.System) []int {
	count := len(s.Rules)
	leads := make([][]bool, count)
	for i, r := range s.Rules {
		leads[i] = make([]bool, count)
		for j, other := range s.Rules {
			leads[i][j] = i == j || saidUses(r, other.Out)
		}
	}
	for between := range count {
		for i := range count {
			for j := range count {
				leads[i][j] = leads[i][j] || leads[i][between] && leads[between][j]
			}
		}
	}
	var needed []int
	for j := range count {
		isLed := func(i int) bool { return leads[i][j] && slices.Contains(s.Out, s.Rules[i].Out) }
		if slices.ContainsFunc(upTo(0, count), isLed) {
			needed = append(needed, j)
		}
	}
	return needed
}

// holdAgainstSaid is handed systems alone; it answers which rules are needed.
func holdAgainstSaid(t *testing.T, what string, s api.System) []int {
	t.Helper()
	needed := saidNeeded(s)
	wantNeeded(t, what, s, needed...)
	if t.Failed() {
		t.Fatalf("%s: %.2000s", what, plain(s))
	}
	return needed
}

// P10: all systems of up to three rules that make numbers of one another, whatever is
// Out, and of four with one that is.
func TestAllLinks(t *testing.T) {
	for count := range 4 {
		for told := range 1 << count {
			allLinks(t, count, told)
		}
	}
	if !testing.Short() {
		allLinks(t, 4, 1)
	}
}

// allLinks: the bits of told are what is Out.
func allLinks(t *testing.T, count, told int) {
	t.Helper()
	for links := range 1 << (count * count) {
		s := api.System{Vars: numbers(count)}
		for out := range count {
			var of []int
			for v := range count {
				if links>>(out*count+v)&1 == 1 {
					of = append(of, v)
				}
			}
			s.Rules = append(s.Rules, sum(out, of...))
			if told>>out&1 == 1 {
				s.Out = append(s.Out, out)
			}
		}
		if links%2 == 1 { // rules, then, are not in the order of their variables
			slices.Reverse(s.Rules)
		}
		holdAgainstSaid(t, fmt.Sprint(count, " rules, links ", links, ", Out ", told), s)
	}
}

// P10: systems of all kinds of rules, held against the chapter's words.
func TestThrown(t *testing.T) {
	all, some, none := 0, 0, 0
	gone := map[int]int{}
	for i := range 20000 {
		s := thrown(i, 14)
		wantSame(t, fmt.Sprint("thrown ", i, " is a system"), sys.Check(s), api.Fault{})
		needed := holdAgainstSaid(t, fmt.Sprint("thrown ", i), s)
		switch len(needed) {
		case len(s.Rules):
			all++
		case 0:
			none++
		default:
			some++
		}
		for number, r := range s.Rules {
			if !slices.Contains(needed, number) {
				gone[r.Op]++
			}
		}
	}
	if all < 1000 || some < 5000 || none < 1000 || len(gone) != api.QScanE {
		t.Errorf("%d times all were needed, %d times some, %d times none; gone: %v", all, some, none, gone)
	}
}

// P10: of what is trimmed no rule can go: what it makes would be missing.
func TestNoneCanGo(t *testing.T) {
	for i := range 4000 {
		trimmed, fault := Trim(thrown(i, 10))
		wantSame(t, "Trim's fault", fault, api.Fault{})
		for number := range trimmed.Rules {
			less := only(trimmed, slices.Concat(upTo(0, number), upTo(number+1, len(trimmed.Rules)))...)
			if got := sys.Check(less); got.Code != api.ErrNone {
				t.Fatalf("thrown %d: without rule %d: fault %v", i, number, got)
			}
		}
	}
}
