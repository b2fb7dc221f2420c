package emit

import (
	"fmt"
	"slices"
	"testing"

	"loomwork/api"
	"loomwork/code"
	"loomwork/loop"
)

// takenAs says how many things a step of a tree takes.
func takenAs(p api.Push) int {
	return []int{api.PNum: 0, api.PSca: 0, api.PArr: 0, api.PIdx: 0, api.PUn: 1, api.PBin: 2, api.PSel: 3, api.PAt: 2}[p.Op]
}

// lastBranch is where the last branch of the steps begins.
func lastBranch(steps []api.Push) int {
	begin := len(steps) - 1
	for range takenAs(steps[begin]) {
		begin = lastBranch(steps[:begin])
	}
	return begin
}

// branches are what the last step of a tree takes, in their order.
func branches(steps []api.Push) [][]api.Push {
	var all [][]api.Push
	rest := steps[:len(steps)-1]
	for range takenAs(steps[len(steps)-1]) {
		begin := lastBranch(rest)
		all = slices.Insert(all, 0, rest[begin:])
		rest = rest[:begin]
	}
	return all
}

// saidTree is the code of a tree from its end backward: what its last step takes lies
// side by side.
func saidTree(steps []api.Push, register, turns int) []api.Ins {
	var l []api.Ins
	for i, branch := range branches(steps) {
		l = append(l, saidTree(branch, register+i, turns)...)
	}
	return append(l, instructions(register, saidPush(steps[len(steps)-1], turns))...)
}

// saidPush is what the chapter says of a step of a tree; s0 is the first of what it takes.
func saidPush(p api.Push, turns int) string {
	isLoop := turns > 0
	switch {
	case p.Op == api.PSca, p.Op == api.PArr && !isLoop:
		return fmt.Sprintf("load s0 %d", p.V)
	case p.Op == api.PArr:
		return fmt.Sprintf("loadx s0 turn %d %d", p.V, turns)
	case p.Op == api.PNum, p.Op == api.PIdx && !isLoop:
		return fmt.Sprintf("num s0 %d", p.N)
	case p.Op == api.PIdx:
		return fmt.Sprintf("num s0 %d; add s0 s0 turn", p.N)
	case p.Op == api.PUn:
		return nameOf(p.K) + " s0 s0"
	case p.Op == api.PBin:
		return nameOf(p.K) + " s0 s0 s1"
	case p.Op == api.PSel:
		return "sel s0 s1 s2"
	}
	return saidAt(p.V, p.N)
}

// saidAt is the eleven instructions of a PAt: p and q are s0 and s1, a, b and c are s2, s3
// and s4.
func saidAt(v int, n int64) string {
	return fmt.Sprintf("num s2 0; less s3 s0 s2; not s3 s3; num s4 %[2]d; less s4 s0 s4; and s3 s3 s4; "+
		"move s4 s3; sel s4 s0 s2; loadx s4 s4 %[1]d %[2]d; sel s3 s4 s1; move s0 s3", v, n)
}

// saidStep is the code of a step, and what it costs.
func saidStep(s api.Loop) (l []api.Ins, cost int) {
	if s.Op == api.LOne {
		l = append(saidTree(s.E, 2, 0), instructions(2, fmt.Sprintf("store s0 %d", s.To))...)
		return l, len(l)
	}
	toTurn := func(from string) string { return fmt.Sprintf("storex %s turn %d %d", from, s.To, s.N) }
	ahead, inside, behind := "", "", ""
	if s.Op != api.LEach {
		l, ahead = saidTree(s.F, 2, 0), "move joint s0;"
		inside = nameOf(s.K) + " joint joint s0;"
	}
	switch s.Op {
	case api.LEach:
		inside = toTurn("s0")
	case api.LScan:
		inside += toTurn("joint")
	case api.LFold:
		behind = fmt.Sprintf("store joint %d", s.To)
	}
	l = append(l, instructions(2, ahead+fmt.Sprintf("loop %d", s.N))...)
	turn := slices.Concat(saidTree(s.E, 2, s.N), instructions(2, inside+"; end"))
	last := instructions(2, behind)
	cost = len(l) + s.N*len(turn) + len(last)
	return slices.Concat(l, turn, last), cost
}

// said is the image that the chapter's words ask for.
func said(l api.Loops, bools []int) (api.Image, api.Fault) {
	if fault := loop.Check(l); fault.Code != 0 {
		return api.Image{}, fault
	}
	m := api.Image{Cells: l.Cells, Regs: 3, Put: l.Put, Bools: bools, Get: l.Get}
	for number, s := range l.Steps {
		more, cost := saidStep(s)
		m.Code, m.Cost = append(m.Code, more...), m.Cost+cost
		if len(m.Code) > 200000 {
			return api.Image{}, api.Fault{Code: 7, At: number}
		}
	}
	if len(bools) > 6000 {
		return api.Image{}, api.Fault{Code: 7, At: -1}
	}
	for _, cell := range bools {
		if cell < 0 || cell >= l.Cells {
			return api.Image{}, api.Fault{Code: 16, At: -1}
		}
	}
	for _, i := range m.Code {
		if i.Op != api.IStore && i.Op != api.IStoreX && i.Op != api.IEnd {
			m.Regs = max(m.Regs, i.R+1)
		}
	}
	return m, api.Fault{}
}

// holdAgainstSaid answers the code of the fault that must be told.
func holdAgainstSaid(t *testing.T, what string, l api.Loops, bools []int) int {
	t.Helper()
	want, wantedFault := said(l, bools)
	if wantedFault.Code != 0 {
		wantFault(t, what, l, bools, wantedFault.Code, wantedFault.At)
		return wantedFault.Code
	}
	m := made(t, what, l, bools...)
	wantImage(t, what, m, want)
	wantSame(t, what+": code.Cost", code.Cost(m.Code), want.Cost)
	return 0
}

// wantImage holds field against field, which is faster than texts of both.
func wantImage(t *testing.T, what string, m, want api.Image) {
	t.Helper()
	if !slices.Equal(m.Code, want.Code) {
		t.Errorf("%s: code %.2000s, want %.2000s", what, plain(m.Code), plain(want.Code))
	}
	if !slices.Equal(m.Put, want.Put) || !slices.Equal(m.Get, want.Get) || !slices.Equal(m.Bools, want.Bools) {
		t.Errorf("%s: Put, Get, Bools %.300v %.300v %.300v, want %.300v %.300v %.300v", what, m.Put, m.Get, m.Bools, want.Put, want.Get, want.Bools)
	}
	wantSame(t, what+": Cells, Regs, Cost", []int{m.Cells, m.Regs, m.Cost}, []int{want.Cells, want.Regs, want.Cost})
}
