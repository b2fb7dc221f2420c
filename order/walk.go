package order

import (
	"slices"

	"loomwork/api"
	"loomwork/sys"
)

// walk goes over a system's rules, and takes them one by one.
type walk struct {
	api.System
	needs [][]int // of each rule
	made  []bool  // which variables are In, or made by a rule that was taken
	left  []int   // the rules that were not taken, rising
}

// walkOver begins a walk. Of what is no system it answers sys.Check's fault: all
// that a walk does leans on there being none.
func walkOver(s api.System) (*walk, api.Fault) {
	if fault := sys.Check(s); fault.Code != 0 {
		return nil, fault
	}
	w := &walk{System: s, made: make([]bool, len(s.Vars))}
	for _, variable := range w.In {
		w.made[variable] = true
	}
	for number, r := range w.Rules {
		w.needs = append(w.needs, Needs(r))
		w.left = append(w.left, number)
	}
	return w, api.Fault{}
}

func (w *walk) isMissing(variable int) bool { return !w.made[variable] }

func (w *walk) canCome(number int) bool {
	return !slices.ContainsFunc(w.needs[number], w.isMissing)
}

func (w *walk) take(number int) {
	w.made[w.Rules[number].Out] = true
	w.left = slices.DeleteFunc(w.left, func(other int) bool { return other == number })
}

// takeAll takes, again and again, the first rule that can come, as long as one can;
// it answers them in that order.
func (w *walk) takeAll() []int {
	var taken []int
	for {
		at := slices.IndexFunc(w.left, w.canCome)
		if at < 0 {
			return taken
		}
		number := w.left[at]
		w.take(number)
		taken = append(taken, number)
	}
}

// inOrder answers the system with the rules of these numbers, in memory of its own.
func (w *walk) inOrder(numbers []int) api.System {
	sorted := api.System{Vars: slices.Clone(w.Vars), In: slices.Clone(w.In), Out: slices.Clone(w.Out)}
	for _, number := range numbers {
		sorted.Rules = append(sorted.Rules, Own(w.Rules[number]))
	}
	return sorted
}

// round is asked when no rule can come any more. Each one that is left misses
// something that one that is left makes: so the way ends nowhere, and comes back.
func (w *walk) round() []int {
	if len(w.left) == 0 {
		return nil
	}
	var way []int
	number := w.left[0]
	for !slices.Contains(way, number) {
		way = append(way, number)
		number = w.makerOfMissing(number)
	}
	return way[slices.Index(way, number):]
}

// makerOfMissing answers the rule that makes the first of what a rule misses.
func (w *walk) makerOfMissing(number int) int {
	needs := w.needs[number]
	missing := needs[slices.IndexFunc(needs, w.isMissing)]
	return slices.IndexFunc(w.Rules, func(r api.Rule) bool { return r.Out == missing })
}
