package place

import (
	"slices"

	"loomwork/api"
	"loomwork/mean"
)

const (
	nowhere       = -1
	placeOfSystem = -1 // of a fault
)

// ground is a plan that grows: on it things are laid one by one.
type ground struct {
	system api.System
	spans  []api.Span
	plan   api.Plan
	base   int   // the first cell that is not kept
	laid   []int // the variables that lie somewhere
}

// newGround has a cell already: the cell 0 is kept free.
func newGround(s api.System, spans []api.Span) *ground {
	return &ground{system: s, spans: spans, plan: api.Plan{
		At:    slices.Repeat([]int{nowhere}, len(s.Vars)),
		Keep:  slices.Repeat([]int{nowhere}, len(s.Rules)),
		Cells: 1,
	}}
}

// layAll ends at the first thing for which there are not enough cells.
func (g *ground) layAll() api.Fault {
	g.keep()
	for _, variable := range g.system.In {
		g.lay(variable, func(int) bool { return false })
	}
	if g.isFull() {
		return api.Fault{Code: api.ErrMany, At: placeOfSystem}
	}
	for number, r := range g.system.Rules {
		g.lay(r.Out, func(other int) bool {
			return g.spans[other].To == number && Over(g.system, r, other)
		})
		if g.isFull() {
			return api.Fault{Code: api.ErrMany, At: number}
		}
	}
	return api.Fault{}
}

func (g *ground) isFull() bool { return g.plan.Cells > api.MaxCells }

// keep lays what rules keep for the next row one behind the other: it is needed all the
// time.
func (g *ground) keep() {
	for number, r := range g.system.Rules {
		if r.Op == api.QPre {
			g.plan.Keep[number] = g.plan.Cells
			g.plan.Cells += g.width(r.Out)
		}
	}
	g.base = g.plan.Cells
}

// lay lays a variable from the first cell on where nothing bars it.
func (g *ground) lay(variable int, mayBeOver func(other int) bool) {
	at := g.base
	for {
		bar, isBarred := g.barring(variable, at, mayBeOver)
		if !isBarred {
			break
		}
		at = g.behind(bar, at, mayBeOver)
	}
	g.plan.At[variable] = at
	g.plan.Cells = max(g.plan.Cells, at+g.width(variable))
	g.laid = append(g.laid, variable)
}

// barring answers a variable that is still needed, and has cells where the new one is
// to lie from that cell on. All that was laid ahead comes to be ahead of what a rule
// makes, so that only when it is needed for the last time is asked.
func (g *ground) barring(variable, at int, mayBeOver func(other int) bool) (bar int, isBarred bool) {
	end, from := at+g.width(variable), g.spans[variable].From
	found := slices.IndexFunc(g.laid, func(other int) bool {
		start := g.plan.At[other]
		meets := start < end && at < start+g.width(other)
		return meets && g.spans[other].To >= from && !(start == at && mayBeOver(other))
	})
	if found < 0 {
		return 0, false
	}
	return g.laid[found], true
}

// behind answers the next cell from which on that variable does not bar the new one: the
// one behind it; or the one where it begins, if the new one may be made over it.
func (g *ground) behind(bar, at int, mayBeOver func(other int) bool) int {
	start := g.plan.At[bar]
	if at < start && mayBeOver(bar) {
		return start
	}
	return start + g.width(bar)
}

func (g *ground) width(variable int) int { return mean.Width(g.system, []int{variable}) }
