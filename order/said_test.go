package order

import (
	"slices"
	"testing"

	"loomwork/api"
)

// said is what chapter 8 says of a system, reckoned another way: which rules are
// left by which rules lead to a rule that leads to itself, and the order by how
// many rules each one still waits for.
type said struct {
	links [][]int // of each rule those that make what it needs, by the variables' numbers
	left  []int
	order []int
	round []int
}

func saidOf(s api.System) said {
	h := said{links: saidLinks(s)}
	reach := h.reach()
	isLeft := func(number int) bool {
		return slices.ContainsFunc(upTo(0, len(s.Rules)), func(other int) bool {
			return reach[number][other] && reach[other][other]
		})
	}
	for number := range s.Rules {
		if isLeft(number) {
			h.left = append(h.left, number)
		}
	}
	h.order = h.saidOrder()
	if len(h.left) > 0 {
		h.round = h.saidRound(isLeft)
	}
	return h
}

// saidNeeds is asked of rules of a system alone.
func saidNeeds(r api.Rule) []int {
	list := slices.Clone(r.A)
	switch {
	case r.Op == api.QPre:
		list = list[:1]
	case r.Op == api.QEach, r.Op == api.QFoldE, r.Op == api.QScanE:
		for _, p := range r.E {
			if p.Op == api.PSca || p.Op == api.PArr || p.Op == api.PAt {
				list = append(list, p.V)
			}
		}
	}
	return list
}

func saidLinks(s api.System) [][]int {
	maker := map[int]int{}
	for number, r := range s.Rules {
		maker[r.Out] = number
	}
	var links [][]int
	for _, r := range s.Rules {
		var of []int
		needs := saidNeeds(r)
		for v := range s.Vars {
			if number, is := maker[v]; is && slices.Contains(needs, v) {
				of = append(of, number)
			}
		}
		links = append(links, of)
	}
	return links
}

// reach tells which rule leads to which, over one link or more.
func (h said) reach() [][]bool {
	count := len(h.links)
	reach := make([][]bool, count)
	for i := range count {
		reach[i] = make([]bool, count)
		for _, j := range h.links[i] {
			reach[i][j] = true
		}
	}
	for between := range count {
		for i := range count {
			for j := range count {
				reach[i][j] = reach[i][j] || reach[i][between] && reach[between][j]
			}
		}
	}
	return reach
}

func (h said) saidOrder() []int {
	waits := make([]int, len(h.links))
	behind := make([][]int, len(h.links))
	var ready []int
	for number, of := range h.links {
		waits[number] = len(of)
		for _, other := range of {
			behind[other] = append(behind[other], number)
		}
		if len(of) == 0 {
			ready = append(ready, number)
		}
	}
	var order []int
	for len(ready) > 0 {
		slices.Sort(ready)
		first := ready[0]
		ready = ready[1:]
		order = append(order, first)
		for _, number := range behind[first] {
			waits[number]--
			if waits[number] == 0 {
				ready = append(ready, number)
			}
		}
	}
	return order
}

// saidRound goes as many steps as there are rules: then it is in the round; and
// begins at the first one of the way that is.
func (h said) saidRound(isLeft func(int) bool) []int {
	next := func(number int) int {
		return h.links[number][slices.IndexFunc(h.links[number], isLeft)]
	}
	inside := h.left[0]
	for range h.links {
		inside = next(inside)
	}
	once := []int{inside}
	for number := next(inside); number != inside; number = next(number) {
		once = append(once, number)
	}
	first := h.left[0]
	for !slices.Contains(once, first) {
		first = next(first)
	}
	at := slices.Index(once, first)
	return slices.Concat(once[at:], once[:at])
}

// holdAgainstSaid is handed systems alone.
func holdAgainstSaid(t *testing.T, what string, s api.System) said {
	t.Helper()
	h := saidOf(s)
	if len(h.left) > 0 {
		wantRound(t, what, s, h.left[0], h.round...)
	} else {
		wantSorted(t, what, s, h.order...)
	}
	if t.Failed() {
		t.Fatalf("%s: %v", what, s.Rules)
	}
	return h
}
