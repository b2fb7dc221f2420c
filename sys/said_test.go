package sys

import (
	"slices"

	"loomwork/api"
	"loomwork/kinds"
)

// said is what chapter 7 says of a system, in its words' order: the rows of types
// are held against patterns, and trees are read from their end.
func said(s api.System) (fault api.Fault) {
	defer func() {
		if why, is := recover().(api.Fault); is {
			fault = why
		}
	}()
	stopIf := func(is bool, code, at int) {
		if is {
			panic(api.Fault{Code: code, At: at})
		}
	}
	stopIf(len(s.Vars) > 400 || len(s.In) > 400 || len(s.Out) > 400 || len(s.Rules) > 400, api.ErrMany, -1)
	for i, v := range s.Vars {
		stopIf(v.Elem != 'i' && v.Elem != 'b', api.ErrType, -2-i)
		stopIf(v.N < 0 || v.N > 300, api.ErrSize, -2-i)
	}
	isThere := func(v int) bool { return slices.Contains(upTo(0, len(s.Vars)), v) }
	for i, v := range s.In {
		stopIf(!isThere(v), api.ErrRange, -1)
		stopIf(slices.Contains(s.In[:i], v), api.ErrTwice, -1)
	}
	for _, v := range s.Out {
		stopIf(!isThere(v), api.ErrRange, -1)
	}
	made := slices.Clone(s.In)
	for i, r := range s.Rules {
		stopIf(!isThere(r.Out), api.ErrRange, i)
		stopIf(slices.Contains(made, r.Out), api.ErrTwice, i)
		stopIf(r.Op < 1 || r.Op > 16 || len(r.A) != counts[max(0, min(r.Op, 16))], api.ErrForm, i)
		stopIf(r.Op >= api.QEach && len(r.E) > 24, api.ErrMany, i)
		for _, v := range saidNames(r) {
			stopIf(!isThere(v), api.ErrRange, i)
		}
		stopIf(!saidFits(s.Vars, r), api.ErrType, i)
		made = append(made, r.Out)
	}
	for i, r := range s.Rules {
		for _, v := range saidNames(r) {
			stopIf(!slices.Contains(made, v), api.ErrNone, i)
		}
	}
	for _, v := range s.Out {
		stopIf(!slices.Contains(made, v), api.ErrNone, -1)
	}
	return api.Fault{}
}

// saidNames are the variables of the fields that a rule has.
func saidNames(r api.Rule) []int {
	list := slices.Clone(r.A)
	for _, p := range r.E {
		if r.Op >= 14 && slices.Contains([]int{2, 3, 8}, p.Op) {
			list = append(list, p.V)
		}
	}
	return list
}

// patterns of types, that of Out first. A letter for the cells: i, b, E any one, T
// what K takes, M what K makes; and one for how many: 0 a scalar, n any, p and q
// an array, s as many as p and q together.
var patterns = [...][]string{
	api.QNum:   {"E0"},
	api.QCopy:  {"En", "En"},
	api.QUn:    {"Mn", "Tn"},
	api.QBin:   {"Mn", "Tn", "Tn"},
	api.QIf:    {"En", "b0", "En", "En"},
	api.QFold:  {"T0", "T0", "Tp"},
	api.QScan:  {"Tp", "T0", "Tp"},
	api.QFill:  {"Ep", "E0"},
	api.QIndex: {"E0", "Ep", "i0", "E0"},
	api.QWith:  {"Ep", "Ep", "i0", "E0"},
	api.QSlice: {"Eq", "Ep"},
	api.QCat:   {"Es", "Ep", "Eq"},
	api.QPre:   {"En", "En", "En"},
	api.QEach:  {"En"},
	api.QFoldE: {"T0", "T0"},
	api.QScanE: {"Tp", "T0"},
}

// match holds types against a pattern; what its letters stand for is answered.
func match(row []api.Var, pattern []string, k int) (map[byte]int, bool) {
	takes, makes, _ := kinds.Op(k)
	bound := map[byte]int{'i': 'i', 'b': 'b', 'T': int(takes), 'M': int(makes), '0': 0}
	bind := func(letter byte, what int) bool {
		have, is := bound[letter]
		bound[letter] = what
		return !is || have == what
	}
	isRight := true
	for i := range row { // from the last one on: Out may hang on the others
		i = len(row) - 1 - i
		letter, count := pattern[i][0], pattern[i][1]
		if count == 's' {
			bound['s'] = bound['p'] + bound['q']
		}
		isRight = isRight && bind(letter, int(row[i].Elem)) && bind(count, row[i].N)
		if count == 'p' || count == 'q' {
			isRight = isRight && row[i].N > 0
		}
	}
	return bound, isRight
}

func saidFits(vars []api.Var, r api.Rule) bool {
	row := []api.Var{vars[r.Out]}
	for _, v := range r.A {
		row = append(row, vars[v])
	}
	bound, isRight := match(row, patterns[r.Op], r.K)
	if !isRight {
		return false
	}
	switch r.Op {
	case api.QNum:
		return bound['E'] == 'i' || r.N == 0 || r.N == 1
	case api.QUn, api.QBin:
		_, _, n := kinds.Op(r.K)
		return n == r.Op-api.QUn+1
	case api.QFold, api.QScan:
		return kinds.Folds(r.K)
	case api.QSlice:
		return r.N >= 0 && r.N+int64(row[0].N) >= 0 && r.N+int64(row[0].N) <= int64(row[1].N)
	case api.QEach, api.QScanE:
		return (r.Op == api.QEach || kinds.Folds(r.K)) && saidTree(vars, r.E, max(row[0].N, 1), row[0].Elem)
	case api.QFoldE:
		return kinds.Folds(r.K) && r.N > 0 && r.N < 301 && saidTree(vars, r.E, int(r.N), row[0].Elem)
	}
	return true
}

func saidTree(vars []api.Var, steps []api.Push, cells int, want byte) bool {
	reader := &saidReader{vars, steps, cells, false}
	made := reader.read()
	return !reader.isWrong && made == want && len(reader.steps) == 0
}

// saidReader reads a tree from its end: a step, and ahead of it what it takes.
type saidReader struct {
	vars    []api.Var
	steps   []api.Push
	cells   int
	isWrong bool
}

// read answers the Elem of what the last step makes, and takes it away with all
// that it is made of.
func (s *saidReader) read() byte {
	if len(s.steps) == 0 {
		s.isWrong = true
		return 0
	}
	last := len(s.steps) - 1
	p := s.steps[last]
	s.steps = s.steps[:last]
	takes, makes, n := kinds.Op(p.K)
	switch p.Op {
	case api.PNum:
		s.need(p.K == 0 || p.K == 1 && (p.N == 0 || p.N == 1))
		return "ib"[p.K&1]
	case api.PIdx:
		s.need(p.N > -1000001 && p.N < 1000001)
		return 'i'
	case api.PUn:
		s.need(n == 1 && s.read() == takes)
		return makes
	case api.PBin:
		s.need(n == 2 && s.read() == takes && s.read() == takes)
		return makes
	case api.PSel:
		elem := s.read()
		s.need(s.read() == elem && s.read() == 'b')
		return elem
	case api.PSca, api.PArr, api.PAt:
		return s.readVariable(p, s.vars[p.V])
	}
	s.isWrong = true
	return 0
}

func (s *saidReader) readVariable(p api.Push, v api.Var) byte {
	switch p.Op {
	case api.PSca:
		s.need(v.N == 0)
	case api.PArr:
		isWithin := p.N >= 0 && p.N <= 300
		s.need(v.N > 0 && isWithin && int(p.N)+s.cells-1 < v.N)
	case api.PAt:
		s.need(v.N > 0 && s.read() == v.Elem && s.read() == 'i')
	}
	return v.Elem
}

func (s *saidReader) need(is bool) { s.isWrong = s.isWrong || !is }
