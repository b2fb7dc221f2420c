package emit

import "loomwork/api"

// inNoLoop stands in place of how many turns a loop has.
const inNoLoop = 0

// addTree adds what makes a tree at the stack's bottom.
func (c *coder) addTree(steps []api.Push, turns int) {
	free := bottom
	for _, p := range steps {
		lowest := free - takenBy(p)
		c.addPush(p, lowest, turns)
		free = lowest + 1
	}
}

// takenBy answers how many registers a step takes from the stack's top.
func takenBy(p api.Push) int {
	switch p.Op {
	case api.PUn:
		return 1
	case api.PBin, api.PAt:
		return 2
	case api.PSel:
		return 3
	}
	return 0
}

// addPush adds a tree's step: what it takes lies from the register r on, and what it makes
// comes to lie at r.
func (c *coder) addPush(p api.Push, r, turns int) {
	switch p.Op {
	case api.PNum:
		c.add(api.Ins{Op: api.INum, R: r, N: p.N})
	case api.PSca:
		c.add(api.Ins{Op: api.ILoad, R: r, N: int64(p.V)})
	case api.PArr:
		c.add(cellOfTurn(p, r, turns))
	case api.PIdx:
		c.add(api.Ins{Op: api.INum, R: r, N: p.N})
		if turns != inNoLoop {
			c.add(api.Ins{Op: api.IBin, K: api.KAdd, R: r, A: r, B: turn})
		}
	case api.PUn:
		c.add(api.Ins{Op: api.IUn, K: p.K, R: r, A: r})
	case api.PBin:
		c.add(api.Ins{Op: api.IBin, K: p.K, R: r, A: r, B: r + 1})
	case api.PSel:
		c.add(api.Ins{Op: api.ISel, R: r, A: r + 1, B: r + 2})
	case api.PAt:
		c.add(cellAtPlace(p, r)...)
	}
}

func cellOfTurn(p api.Push, r, turns int) api.Ins {
	if turns == inNoLoop {
		return api.Ins{Op: api.ILoad, R: r, N: int64(p.V)}
	}
	return api.Ins{Op: api.ILoadX, R: r, A: turn, B: turns, N: int64(p.V)}
}

// cellAtPlace loads the first cell where there is none at the place, and then takes the
// other value all the same: an ILoadX may not go astray. The registers' names are those
// of the chapter.
func cellAtPlace(at api.Push, p int) []api.Ins {
	q, a, b, c := p+1, p+2, p+3, p+4
	return []api.Ins{
		{Op: api.INum, R: a},
		{Op: api.IBin, K: api.KLess, R: b, A: p, B: a},
		{Op: api.IUn, K: api.KNot, R: b, A: b},
		{Op: api.INum, R: c, N: at.N},
		{Op: api.IBin, K: api.KLess, R: c, A: p, B: c},
		{Op: api.IBin, K: api.KAnd, R: b, A: b, B: c},
		{Op: api.IMove, R: c, A: b},
		{Op: api.ISel, R: c, A: p, B: a},
		{Op: api.ILoadX, R: c, A: c, B: int(at.N), N: int64(at.V)},
		{Op: api.ISel, R: b, A: c, B: q},
		{Op: api.IMove, R: p, A: b},
	}
}
