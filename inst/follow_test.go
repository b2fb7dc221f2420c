package inst

import (
	"fmt"
	"slices"
	"testing"

	"loomwork/api"
	"loomwork/kinds"
)

// wrongSystem tells what chapter 7 does not allow of a system made of the rules
// QNum to QPre; an empty text: nothing.
func wrongSystem(s api.System) string {
	if len(s.Vars) > api.MaxVars || len(s.In) > api.MaxVars || len(s.Out) > api.MaxVars || len(s.Rules) > api.MaxRules {
		return "too many"
	}
	for i, v := range s.Vars {
		if v.Elem != 'i' && v.Elem != 'b' || v.N < 0 || v.N > api.MaxArray {
			return fmt.Sprint("the variable ", i, ": ", v)
		}
	}
	isNone := func(v int) bool { return v < 0 || v >= len(s.Vars) }
	made := map[int]int{}
	for _, v := range s.In {
		made[v]++
		if isNone(v) || made[v] > 1 {
			return fmt.Sprint("the input ", v)
		}
	}
	for i, r := range s.Rules {
		if isNone(r.Out) || slices.ContainsFunc(r.A, isNone) || len(r.E) > 0 {
			return fmt.Sprint("the rule ", i, ": ", r)
		}
		if made[r.Out]++; made[r.Out] > 1 {
			return fmt.Sprint("the rule ", i, " makes what is there: ", r)
		}
		if !fits(s.Vars, r) {
			return fmt.Sprint("the types of rule ", i, " do not fit: ", r)
		}
	}
	needed := slices.Clone(s.Out)
	for _, r := range s.Rules {
		needed = append(needed, r.A...)
	}
	for _, v := range needed {
		if isNone(v) || made[v] == 0 {
			return fmt.Sprint("nobody makes ", v)
		}
	}
	return ""
}

// fits tells whether the types of a rule's variables fit, and how many it has.
func fits(vars []api.Var, r api.Rule) bool {
	counts := [...]int{api.QNum: 0, api.QCopy: 1, api.QUn: 1, api.QBin: 2, api.QIf: 3, api.QFold: 2, api.QScan: 2, api.QFill: 1,
		api.QIndex: 3, api.QWith: 3, api.QSlice: 1, api.QCat: 2, api.QPre: 2}
	if r.Op < 1 || r.Op >= len(counts) || len(r.A) != counts[r.Op] {
		return false
	}
	out := vars[r.Out]
	var a []api.Var
	for _, v := range r.A {
		a = append(a, vars[v])
	}
	truth, number := api.Var{Elem: 'b'}, api.Var{Elem: 'i'}
	takes, makes, n := kinds.Op(r.K)
	switch r.Op {
	case api.QNum:
		return out == number || out == truth && (r.N == 0 || r.N == 1)
	case api.QCopy:
		return out == a[0]
	case api.QUn, api.QBin:
		return n == len(a) && a[0].Elem == takes && a[0] == a[n-1] && out == api.Var{Elem: makes, N: a[0].N}
	case api.QIf:
		return a[0] == truth && a[1] == a[2] && out == a[1]
	case api.QFold, api.QScan:
		return kinds.Folds(r.K) && a[0] == api.Var{Elem: takes} && a[1].Elem == takes && a[1].N > 0 && out == a[r.Op-api.QFold]
	case api.QFill:
		return a[0].N == 0 && out.N > 0 && out.Elem == a[0].Elem
	case api.QIndex, api.QWith:
		return a[0].N > 0 && a[1] == number && a[2] == api.Var{Elem: a[0].Elem} && out == a[2*(api.QWith-r.Op)]
	case api.QSlice:
		return a[0].N > 0 && out.N > 0 && out.Elem == a[0].Elem && r.N >= 0 && r.N <= int64(a[0].N-out.N)
	case api.QCat:
		return a[0].N > 0 && a[1].N > 0 && a[0].Elem == a[1].Elem && out == api.Var{Elem: a[0].Elem, N: a[0].N + a[1].N}
	}
	return a[0] == a[1] && out == a[0] // QPre
}

// What follows: what is made is a system.
func TestMadeIsSystem(t *testing.T) {
	right := 0
	for i := range 10000 {
		s, fault := Make(thrown(i))
		if fault.Code != 0 {
			continue
		}
		right++
		if wrong := wrongSystem(s); wrong != "" {
			t.Fatalf("thrown %d: %s: %v", i, wrong, s)
		}
	}
	if right < 3000 {
		t.Errorf("%d programs alone were right", right)
	}
}

// wrongSystem tells of systems that are none.
func TestWrongSystem(t *testing.T) {
	const text = "node main(a: int^3, c: bool) -> (y: int, z: bool) { var v: int^3; v = if c then cat(slice(a, 1, 2), fill(0, 1)) else with(a, 1, 2); " +
		"y = fold(add, 1, scan(mul, v[0 : 1], pre(a, map(neg, v)))); z = not c and y < 2; }"
	right := madeOf(t, text)
	if wrong := wrongSystem(right); wrong != "" {
		t.Errorf("%s: %v", wrong, right)
	}
	for i := range right.Rules {
		s := madeOf(t, text)
		s.Rules[i].Out = s.Rules[(i+1)%len(s.Rules)].Out
		if wrongSystem(s) == "" {
			t.Errorf("rule %d makes another one's: %v", i, s)
		}
		s = madeOf(t, text)
		v := &s.Vars[s.Rules[i].Out]
		v.Elem ^= 'i' ^ 'b'
		if wrongSystem(s) == "" && s.Rules[i].Op != api.QNum {
			t.Errorf("rule %d makes another type: %v", i, s)
		}
		s = madeOf(t, text)
		s.Rules = slices.Delete(s.Rules, i, i+1)
		if wrongSystem(s) == "" {
			t.Errorf("without rule %d: %v", i, s)
		}
	}
}
