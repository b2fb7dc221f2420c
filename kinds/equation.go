package kinds

import (
	"loomwork/api"
	"loomwork/size"
)

func (s *scope) codeOfEquation(q api.Eq) int {
	if code := firstCode(q.Names, s.makeName); code != 0 {
		return code
	}
	if q.Node != "" {
		return s.codeOfCall(q)
	}
	t, code := s.typeOf(q.E[0])
	switch {
	case code != 0:
		return code
	case !Same(t, s.types[q.Names[0]]):
		return api.ErrType
	}
	return 0
}

// makeName takes note that an equation makes a name.
func (s *scope) makeName(name string) int {
	times, mayBeMade := s.made[name]
	switch {
	case !mayBeMade:
		return api.ErrNone
	case times > 0:
		return api.ErrTwice
	}
	s.made[name] = 1
	return 0
}

func (s *scope) codeOfCall(q api.Eq) int {
	called, known := s.above[q.Node]
	if !known {
		return api.ErrNode
	}
	if code := firstCode(q.S, s.codeOfSize); code != 0 {
		return code
	}
	given, code := typesOf(q.E, s.typeOf)
	switch {
	case code != 0:
		return code
	case len(q.S) != len(called.Sizes), len(q.E) != len(called.In), len(q.Names) != len(called.Out):
		return api.ErrCount
	}
	typeHere := putIn(called.Sizes, q.S)
	if code := codeOfInputs(called.In, given, typeHere); code != 0 {
		return code
	}
	made, code := typesOf(called.Out, typeHere)
	if code != 0 {
		return code
	}
	return s.codeOfNames(q.Names, made)
}

// putIn hands back a function that tells which type an input or output of a
// called node has where it is called: its size is that with the call's sizes.
func putIn(names []string, sizes []api.Size) func(api.Decl) (api.Type, int) {
	return func(d api.Decl) (api.Type, int) {
		if !isArray(d.T) {
			return d.T, 0
		}
		n, fault := size.With(d.T.N, names, sizes)
		if fault.Code != 0 || codeOfRange(n) != 0 {
			return api.Type{}, api.ErrRange
		}
		return arrayOf(d.T.Elem, n), 0
	}
}

// codeOfInputs tells an input's fault ahead of the next one's size.
func codeOfInputs(inputs []api.Decl, given []api.Type, typeHere func(api.Decl) (api.Type, int)) int {
	for i, d := range inputs {
		t, code := typeHere(d)
		switch {
		case code != 0:
			return code
		case !Same(given[i], t):
			return api.ErrType
		}
	}
	return 0
}

func (s *scope) codeOfNames(names []string, made []api.Type) int {
	for i, name := range names {
		if !Same(s.types[name], made[i]) {
			return api.ErrType
		}
	}
	return 0
}

// typesOf answers the types that the function tells of the things in a list, or
// the first fault's code.
func typesOf[T any](list []T, typeOf func(T) (api.Type, int)) ([]api.Type, int) {
	types := make([]api.Type, len(list))
	for i, thing := range list {
		t, code := typeOf(thing)
		if code != 0 {
			return nil, code
		}
		types[i] = t
	}
	return types, 0
}
