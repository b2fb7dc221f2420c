package kinds

import (
	"loomwork/api"
	"loomwork/size"
)

// scope is what the equations of a node may name.
type scope struct {
	above map[string]api.Node // nodes that may be called
	sizes map[string]int      // by their places
	types map[string]api.Type // of inputs, outputs and locals
	made  map[string]int      // how many equations make an output or a local
}

func newScope(above map[string]api.Node) *scope {
	return &scope{
		above: above,
		sizes: map[string]int{},
		types: map[string]api.Type{},
		made:  map[string]int{},
	}
}

// declareNode takes up the names of a node, or tells what is wrong with them.
func (s *scope) declareNode(n api.Node) int {
	if _, twice := s.above[n.Name]; twice {
		return api.ErrTwice
	}
	for i, name := range n.Sizes {
		if _, twice := s.sizes[name]; twice {
			return api.ErrTwice
		}
		s.sizes[name] = i
	}
	if code := firstCode(n.In, s.declare); code != 0 {
		return code
	}
	if code := firstCode(n.Out, s.declareToMake); code != 0 {
		return code
	}
	return firstCode(n.Local, s.declareToMake)
}

func (s *scope) declare(d api.Decl) int {
	_, declared := s.types[d.Name]
	_, isSize := s.sizes[d.Name]
	if declared || isSize {
		return api.ErrTwice
	}
	s.types[d.Name] = d.T
	return s.codeOfSize(d.T.N)
}

// declareToMake declares a name that an equation must make.
func (s *scope) declareToMake(d api.Decl) int {
	s.made[d.Name] = 0
	return s.declare(d)
}

func (s *scope) codeOfSize(n api.Size) int {
	code := firstCode(n, func(t api.Term) int {
		if _, known := s.sizes[t.Name]; !known && t.Name != "" {
			return api.ErrNone
		}
		return 0
	})
	if code != 0 {
		return code
	}
	return codeOfRange(n)
}

func codeOfRange(n api.Size) int {
	if _, fault := size.Norm(n); fault.Code != 0 {
		return api.ErrRange
	}
	return 0
}

// codeOfUnmade is asked when all equations of a node have been looked at.
func (s *scope) codeOfUnmade(n api.Node) int {
	unmade := func(d api.Decl) int {
		if s.made[d.Name] == 0 {
			return api.ErrNone
		}
		return 0
	}
	if code := firstCode(n.Out, unmade); code != 0 {
		return code
	}
	return firstCode(n.Local, unmade)
}
