package fuse

import (
	"fmt"
	"slices"
	"testing"

	"loomwork/api"
	"loomwork/order"
)

// P11.2: trees go into trees that were fused: the rule behind one that goes comes
// next.
func TestChain(t *testing.T) {
	s := over("i9 i8 i7 i6 i5",
		each(1, arr(0, 1), idx(0), add()), each(2, arr(1, 1), num(2), bin(api.KMul)),
		each(3, arr(2, 1), un(api.KNeg)), each(4, idx(4), arr(3, 1), bin(api.KSub)))
	wantFused(t, "arrays", s, each(4, idx(4), arr(0, 4), idx(3), add(), num(2), bin(api.KMul), un(api.KNeg), bin(api.KSub)))
	s = over("i i i i i", each(1, sca(0), un(api.KNeg)), each(2, num(1), sca(1), add()), each(3, sca(2), un(api.KNeg)), each(4, sca(3), sca(0), add()))
	wantFused(t, "scalars", s, each(4, num(1), sca(0), un(api.KNeg), add(), un(api.KNeg), sca(0), add()))
	s = over("i3 i3 i3 i3 i3", each(1, arr(0, 0), un(api.KNeg)), each(2, arr(0, 0), num(1), add()), each(3, arr(1, 0), arr(2, 0), add()), each(4, arr(3, 0)))
	wantFused(t, "two into one", s, each(4, arr(0, 0), un(api.KNeg), arr(0, 0), num(1), add(), add()))
}

// P11.2: as many rules as there may be, all of which but the last go; and as many as
// stay, for they come to too many steps.
func TestLongChain(t *testing.T) {
	s := api.System{Vars: slices.Repeat(types("i2"), api.MaxVars), In: []int{0}, Out: []int{api.MaxVars - 1}}
	for v := 1; v < api.MaxVars; v++ {
		s.Rules = append(s.Rules, rule(api.QCopy, 0, v, v-1))
	}
	wantFused(t, "copies", s, each(api.MaxVars-1, arr(0, 0)))
	want := []api.Rule{}
	for i := range s.Rules {
		s.Rules[i] = each(i+1, arr(i, 0), un(api.KNeg))
	}
	for last := api.MaxTree - 1; last < api.MaxVars; last += api.MaxTree - 1 {
		want = append(want, each(last, append([]api.Push{arr(last-api.MaxTree+1, 0)}, slices.Repeat([]api.Push{un(api.KNeg)}, api.MaxTree-1)...)...))
	}
	rest := (api.MaxVars - 1) % (api.MaxTree - 1)
	want = append(want, each(api.MaxVars-1, append([]api.Push{arr(api.MaxVars-1-rest, 0)}, slices.Repeat([]api.Push{un(api.KNeg)}, rest)...)...))
	wantFused(t, "negations", s, want...)
}

// P11.2: rules come from the first one on: it goes, and the next one is then too
// long.
func TestFromTheFirst(t *testing.T) {
	s := over("i3 i3 i3 i3", each(1, long(10, arr(0, 0))...), each(2, long(10, arr(1, 0))...), each(3, long(10, arr(2, 0))...))
	wantFused(t, "three of ten steps", s, each(2, append(long(10, arr(0, 0)), long(10, arr(1, 0))[1:]...)...), each(3, long(10, arr(2, 0))...))
	s.Rules[0].E = long(20, arr(0, 0))
	wantFused(t, "the first is too long", s, each(1, long(20, arr(0, 0))...), each(3, append(long(10, arr(1, 0)), long(10, arr(2, 0))[1:]...)...))
}

// P11.2: a rule comes once: what stayed is not come back to, though it could go when
// later ones have gone.
func TestNotComeBackTo(t *testing.T) {
	s := over("i i3 i i3 i", each(2, sca(0), un(api.KNeg)), each(3, arr(1, 0), sca(2), add()), each(4, arr(3, 1)))
	left := []api.Rule{each(2, sca(0), un(api.KNeg)), each(4, arr(1, 1), sca(2), add())}
	wantFused(t, "a scalar in an array in a scalar", s, left...)
	wantFused(t, "fused again", with(s, left...), each(4, arr(1, 1), sca(0), un(api.KNeg), add()))
}

// P11.2: rules in every order: one goes, if what uses it stands behind it when it
// comes, be it that this went there first; the others stay in their order.
func TestEveryOrder(t *testing.T) {
	first := over("i3 i3 i3 i3 i3", each(1, arr(0, 0), un(api.KNeg)), each(2, arr(1, 0), num(1), add()), each(3, arr(2, 0), idx(0), add()), each(4, arr(3, 0), arr(0, 0), bin(api.KMul)))
	permutations(len(first.Rules), func(numbers []int) {
		s := with(first)
		for _, number := range numbers {
			s.Rules = append(s.Rules, order.Own(first.Rules[number]))
		}
		goes := 0
		for number := range 3 {
			isBehind := func(user int) bool { return slices.Index(numbers, user) > slices.Index(numbers, number) }
			if slices.ContainsFunc(upTo(number+1, 4), isBehind) { // those between have gone into it
				goes++
			}
		}
		what := fmt.Sprint("rules ", numbers)
		wantSame(t, what+": how many go", len(s.Rules)-len(fusedOf(t, what, s).Rules), goes)
		wantFused(t, what, s, saidFused(s)...)
	})
}

// permutations hands each order of the numbers below count to the function.
func permutations(count int, do func(numbers []int)) {
	var longer func(front []int)
	longer = func(front []int) {
		if len(front) == count {
			do(front)
			return
		}
		for n := range count {
			if !slices.Contains(front, n) {
				longer(append(slices.Clone(front), n))
			}
		}
	}
	longer(nil)
}
