package emit

import "loomwork/api"

// Registers.
const (
	turn   = 0 // of a loop
	joint  = 1 // what comes together of a loop's turns
	bottom = 2 // of the stack
)

const fewestRegs = bottom + 1

// coder puts instructions one behind the other.
type coder struct {
	code []api.Ins
	regs int
}

// add looks at R of all of them: of those that are into nothing it is below fewestRegs.
func (c *coder) add(instructions ...api.Ins) {
	for _, i := range instructions {
		c.regs = max(c.regs, i.R+1)
	}
	c.code = append(c.code, instructions...)
}

func (c *coder) hasTooMuch() bool { return len(c.code) > api.MaxCode || c.regs > api.MaxRegs }

// addStep adds the code of a step of loops.
func (c *coder) addStep(s api.Loop) {
	switch s.Op {
	case api.LOne:
		c.addTree(s.E, inNoLoop)
		c.add(toCell(bottom, s))
	case api.LEach:
		c.addLoop(s, toTurn(bottom, s))
	case api.LFold:
		c.addFirst(s.F)
		c.addLoop(s, join(s.K))
		c.add(toCell(joint, s))
	case api.LScan:
		c.addFirst(s.F)
		c.addLoop(s, join(s.K), toTurn(joint, s))
	}
}

// addFirst adds what a fold or a scan begins with.
func (c *coder) addFirst(f []api.Push) {
	c.addTree(f, inNoLoop)
	c.add(api.Ins{Op: api.IMove, R: joint, A: bottom})
}

// addLoop adds a loop that at each turn makes E, and then does what is to be done with it.
func (c *coder) addLoop(s api.Loop, then ...api.Ins) {
	c.add(api.Ins{Op: api.ILoop, R: turn, N: int64(s.N)})
	c.addTree(s.E, s.N)
	c.add(then...)
	c.add(api.Ins{Op: api.IEnd})
}

func join(k int) api.Ins { return api.Ins{Op: api.IBin, K: k, R: joint, A: joint, B: bottom} }

func toCell(register int, s api.Loop) api.Ins {
	return api.Ins{Op: api.IStore, R: register, N: int64(s.To)}
}

// toTurn stores to the cell of the loop's turn.
func toTurn(register int, s api.Loop) api.Ins {
	return api.Ins{Op: api.IStoreX, R: register, A: turn, B: s.N, N: int64(s.To)}
}
