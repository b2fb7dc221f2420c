package place

import (
	"slices"

	"loomwork/api"
	"loomwork/order"
)

// The variables that the rules of everyKind are of, one of each type.
const (
	aNumber = iota
	aTruth
	threeNumbers
	threeTruths
	twoNumbers
	oneNumber
)

func everyType() []api.Var { return types("i b i3 b3 i2 i1") }

// kind is a right rule over the variables of everyType, and the type of what it
// makes, as the variable that has it.
type kind struct {
	api.Rule
	makes int
}

// everyKind has rules of each Op, and each kind of steps; each of the types is made
// by one.
func everyKind() []kind {
	tree := []api.Push{sca(aNumber), arr(threeNumbers, 0), bin(api.KMul), {Op: api.PIdx, N: 1}, bin(api.KAdd), num(4), at(threeNumbers)}
	choice := []api.Push{arr(threeTruths, 0), {Op: api.PUn, K: api.KNot}, arr(threeTruths, 0), sca(aTruth), {Op: api.PSel}}
	all := []kind{
		{api.Rule{Op: api.QNum, N: 5}, aNumber},
		{api.Rule{Op: api.QNum, N: 1}, aTruth},
		{rule(api.QCopy, 0, 0, threeNumbers), threeNumbers},
		{rule(api.QUn, api.KNeg, 0, threeNumbers), threeNumbers},
		{rule(api.QUn, api.KNot, 0, aTruth), aTruth},
		{rule(api.QBin, api.KLess, 0, threeNumbers, threeNumbers), threeTruths},
		{rule(api.QBin, api.KSub, 0, aNumber, aNumber), aNumber},
		{rule(api.QIf, 0, 0, aTruth, threeTruths, threeTruths), threeTruths},
		{rule(api.QFold, api.KAnd, 0, aTruth, threeTruths), aTruth},
		{rule(api.QScan, api.KMin, 0, aNumber, threeNumbers), threeNumbers},
		{rule(api.QFill, 0, 0, aTruth), threeTruths},
		{rule(api.QIndex, 0, 0, threeTruths, aNumber, aTruth), aTruth},
		{rule(api.QWith, 0, 0, threeNumbers, aNumber, aNumber), threeNumbers},
		{api.Rule{Op: api.QSlice, N: 1, A: []int{threeNumbers}}, twoNumbers},
		{api.Rule{Op: api.QSlice, N: 1, A: []int{twoNumbers}}, oneNumber},
		{rule(api.QCat, 0, 0, twoNumbers, oneNumber), threeNumbers},
		{rule(api.QPre, 0, 0, aNumber, aNumber), aNumber},
		{rule(api.QPre, 0, 0, threeTruths, threeTruths), threeTruths},
		{api.Rule{Op: api.QEach, E: tree}, threeNumbers},
		{api.Rule{Op: api.QEach, E: choice}, threeTruths},
		{api.Rule{Op: api.QFoldE, K: api.KAdd, N: 3, A: []int{aNumber}, E: tree}, aNumber},
		{api.Rule{Op: api.QFoldE, K: api.KOr, N: 2, A: []int{aTruth}, E: choice}, aTruth},
		{api.Rule{Op: api.QScanE, K: api.KXor, A: []int{aTruth}, E: choice}, threeTruths},
		{api.Rule{Op: api.QScanE, K: api.KAdd, A: []int{aNumber}, E: tree}, threeNumbers},
	}
	for i := range all {
		all[i].Rule = order.Own(all[i].Rule)
	}
	return all
}

// making is the rule, in memory of its own, so that it makes the variable out.
func (k kind) making(out int) api.Rule {
	r := order.Own(k.Rule)
	r.Out = out
	return r
}

// placesOf are the places of a rule of everyKind where it names a variable.
func placesOf(r *api.Rule) []*int {
	var places []*int
	for i := range r.A {
		places = append(places, &r.A[i])
	}
	for i := range r.E {
		if slices.Contains([]int{api.PSca, api.PArr, api.PAt}, r.E[i].Op) {
			places = append(places, &r.E[i].V)
		}
	}
	return places
}

// thrown is a right system of so many rules at most, of all kinds, behind variables of
// each type that are In, and one that is neither made nor In; some of it is Out. Two of
// three are sorted, and of the others some.
func thrown(i, most int) api.System {
	d := dice(i)
	s := api.System{Vars: everyType(), In: upTo(0, len(everyType()))}
	var isOf []int // of each variable its type, as the variable of everyType
	isOf = append(isOf, s.In...)
	for range d.below(most + 1) {
		k := pick(&d, everyKind())
		s.Rules = append(s.Rules, k.making(len(s.Vars)))
		s.Vars, isOf = append(s.Vars, everyType()[k.makes]), append(isOf, k.makes)
	}
	for number := range s.Rules {
		r := &s.Rules[number]
		for at, place := range placesOf(r) {
			below := r.Out
			if isThen := r.Op == api.QPre && at == 1; isThen {
				below = len(s.Vars)
			}
			*place = pickOf(&d, isOf[:below], *place)
		}
	}
	for range d.below(4) {
		s.Out = append(s.Out, d.below(len(s.Vars)))
	}
	if i%3 == 0 {
		shuffle(&d, s.Rules)
	}
	s.Vars = append(s.Vars, pick(&d, types("i b i300 b2")))
	return renamed(&d, s)
}

// pickOf is one of the variables that have that type.
func pickOf(d *dice, isOf []int, want int) int {
	for {
		if v := d.below(len(isOf)); isOf[v] == want {
			return v
		}
	}
}

// renamed is the system with other numbers for its variables, and In in another order.
func renamed(d *dice, s api.System) api.System {
	names := upTo(0, len(s.Vars))
	shuffle(d, names)
	vars := make([]api.Var, len(s.Vars))
	for v, name := range names {
		vars[name] = s.Vars[v]
	}
	s.Vars = vars
	for i := range s.In {
		s.In[i] = names[s.In[i]]
	}
	shuffle(d, s.In)
	for i := range s.Out {
		s.Out[i] = names[s.Out[i]]
	}
	for i := range s.Rules {
		r := &s.Rules[i]
		r.Out = names[r.Out]
		for _, place := range placesOf(r) {
			*place = names[*place]
		}
	}
	return s
}
