package fuse

import (
	"slices"

	"loomwork/api"
)

const mostOfIndex = 1000000 // N of a step PIdx

// joiner goes over a system in normal form that is its own, and lets rules go into
// those that use what they make.
type joiner struct{ api.System }

// place is where a rule uses a variable.
type place struct {
	rule int
	step int // its number in E
}

const inA = -1 // the step of a place that is none in E

// joinAll comes to each rule once: one that goes leaves its number to the rule behind
// it.
func (j *joiner) joinAll() {
	for number := 0; number < len(j.Rules); {
		if to, goes := j.target(number); goes {
			j.join(number, to)
		} else {
			number++
		}
	}
}

// join puts the rule's tree in the step's stead.
func (j *joiner) join(number int, to place) {
	user := &j.Rules[to.rule]
	tree := moved(user.E[to.step], j.Rules[number].E...)
	user.E = slices.Replace(user.E, to.step, to.step+1, tree...)
	j.Rules = slices.Delete(j.Rules, number, number+1)
}

// target answers the place where the rule goes to, if it goes.
func (j *joiner) target(number int) (to place, goes bool) {
	r := j.Rules[number]
	if r.Op != api.QEach || slices.Contains(j.Out, r.Out) {
		return place{}, false
	}
	to, isOnly := j.onlyPlace(r.Out)
	if !isOnly || to.rule <= number || to.step == inA {
		return place{}, false
	}
	user := j.Rules[to.rule]
	return to, j.isWorthIt(r, user) && canTake(user, to.step, r.E)
}

// eachPlace hands the function each place where a variable is used, with that
// variable.
func (j *joiner) eachPlace(do func(variable int, at place)) {
	for number, r := range j.Rules {
		for _, variable := range r.A {
			do(variable, place{number, inA})
		}
		if r.Op < api.QEach {
			continue // such a rule has no steps, whatever lies there
		}
		for step, p := range r.E {
			if p.Op == api.PSca || p.Op == api.PArr || p.Op == api.PAt {
				do(p.V, place{number, step})
			}
		}
	}
}

// onlyPlace answers the place where a variable is used, if there is just one.
func (j *joiner) onlyPlace(variable int) (only place, isOnly bool) {
	count := 0
	j.eachPlace(func(used int, at place) {
		if used == variable {
			only = at
			count++
		}
	})
	return only, count == 1
}

func (j *joiner) isArray(variable int) bool { return j.Vars[variable].N > 0 }

// isWorthIt: a scalar's tree would be reckoned anew in each cell, where its user goes
// over cells; that is worth it only where the tree costs no more than what it makes.
func (j *joiner) isWorthIt(r, user api.Rule) bool {
	return j.isArray(r.Out) || user.Op == api.QEach && !j.isArray(user.Out) || isPlain(r.E)
}

func isPlain(tree []api.Push) bool {
	return len(tree) == 1 && (tree[0].Op == api.PNum || tree[0].Op == api.PSca)
}

// canTake tells whether the tree can stand in the stead of the user's step of that
// number.
func canTake(user api.Rule, step int, tree []api.Push) bool {
	if user.E[step].Op == api.PAt || len(user.E)-1+len(tree) > api.MaxTree {
		return false
	}
	isBeyond := func(p api.Push) bool { return p.Op == api.PIdx && p.N > mostOfIndex }
	return !slices.ContainsFunc(moved(user.E[step], tree...), isBeyond)
}

// moved answers the steps, as many as there are, for the cells that the step in whose
// stead they are to stand has asked for. A PSca has no N, whatever lies there: it asks
// for the same cell.
func moved(stead api.Push, steps ...api.Push) []api.Push {
	tree := slices.Clone(steps)
	for i := range tree {
		if p := &tree[i]; stead.Op == api.PArr && (p.Op == api.PArr || p.Op == api.PIdx) {
			p.N += stead.N
		}
	}
	return tree
}
