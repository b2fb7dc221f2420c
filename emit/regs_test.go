package emit

import (
	"fmt"
	"strings"
	"testing"

	"loomwork/api"
)

func wantRegs(t *testing.T, what string, regs int, steps ...api.Loop) {
	t.Helper()
	wantSame(t, what+": Regs", made(t, what, over(400, "> 0", steps...)).Regs, regs)
}

// P17.1: Regs is 3, if nothing is into a register beyond 2.
func TestFewestRegs(t *testing.T) {
	wantRegs(t, "no steps", 3)
	for _, p := range parts(2) {
		if steps := tree(p.tree); len(steps) == 1 {
			wantRegs(t, p.name, 3, api.Loop{Op: api.LOne, E: steps})
			wantRegs(t, p.name, 3, api.Loop{Op: api.LEach, N: 2, E: steps})
			wantRegs(t, p.name, 3, api.Loop{Op: api.LFold, K: api.KAdd, N: 2, F: steps, E: steps}, api.Loop{Op: api.LScan, K: api.KAdd, N: 2, F: steps, E: steps})
		}
	}
	wantRegs(t, "PUn", 3, one(0, "c1 neg not neg"), each(0, 300, "k not not"))
	wantRegs(t, "numbers are no registers", 3, one(39, "c300"), each(99, 300, "a100"), one(0, "+"), each(0, 2, "k1000000000000000000"))
}

// P17.1: else it is one more than the greatest register that an instruction is into, be it
// of E, of F, or of one step of many.
func TestMoreRegs(t *testing.T) {
	wantRegs(t, "PBin", 4, one(0, "c1 c2 add"))
	wantRegs(t, "PBin of PBin", 4, one(0, "c1 c2 add c3 add"))
	wantRegs(t, "PBin in PBin", 5, one(0, "c1 c2 c3 add add"))
	wantRegs(t, "PSel", 5, one(0, "c1 c2 c3 sel"))
	wantRegs(t, "PAt", 7, one(0, "c1 c2 t3,1"))
	wantRegs(t, "PAt on top of one", 8, one(0, "c1 c2 c3 t3,1 add"))
	wantRegs(t, "PAt in PAt's place", 7, one(0, "c1 c2 t3,1 c2 t3,1"))
	wantRegs(t, "PAt in PAt's other value", 8, one(0, "c1 c1 c2 t3,1 t3,1"))
	deep, flat := "1 2 3 4 add add add", "c1"
	for place := range 5 {
		trees := [5]string{flat, flat, flat, flat, flat}
		trees[place] = deep
		wantRegs(t, fmt.Sprint("deep in ", place), 6,
			one(0, flat), one(0, trees[0]), each(0, 2, trees[1]), fold(api.KAdd, 0, 2, trees[2], trees[3]), scan(api.KAdd, 0, 2, trees[4], flat), one(0, flat))
	}
	wantRegs(t, "deep in E of a scan", 6, scan(api.KAdd, 0, 2, flat, deep))
	for height := 1; height <= 12; height++ {
		steps := strings.Repeat("1 ", height) + strings.Repeat("add ", height-1)
		wantRegs(t, fmt.Sprint("a stack of ", height), max(3, 2+height), one(0, flat), one(0, steps), one(0, flat))
	}
	for height := 2; height <= 16; height++ {
		wantRegs(t, fmt.Sprint("a PAt on a stack of ", height), height+5, api.Loop{Op: api.LEach, N: 2, E: deepPlace(height)})
	}
}

// mostInto is the greatest register that anything is into of trees that go on from a stack
// so high with so many steps at most; -1, if none does.
func mostInto(known map[[2]int]int, left, height int) int {
	if most, isKnown := known[[2]int{left, height}]; isKnown {
		return most
	}
	most := -1
	if height == 1 {
		most = 0
	}
	for _, op := range []struct{ takes, beyond int }{{0, 0}, {1, 0}, {2, 0}, {3, 0}, {2, 4}} {
		at := height - op.takes
		if left == 0 || at < 0 {
			continue
		}
		if rest := mostInto(known, left-1, at+1); rest >= 0 {
			most = max(most, rest, 2+at+op.beyond)
		}
	}
	known[[2]int{left, height}] = most
	return most
}

// P17.1: the most registers that a tree may want; so that no loops want more than MaxRegs.
func TestMostRegs(t *testing.T) {
	for steps, want := range map[int]int{1: 2, 2: 2, 3: 6, 4: 6, 5: 7, 6: 8, 24: 20} {
		wantSame(t, fmt.Sprint("most of ", steps, " steps"), mostInto(map[[2]int]int{}, steps, 0), want)
	}
	highest := deepPlace(16)
	wantSame(t, "steps", len(highest), 24)
	wantRegs(t, "the highest PAt", 21, api.Loop{Op: api.LOne, E: highest})
	wantRegs(t, "the highest PAt, of each step", 21, api.Loop{Op: api.LScan, K: api.KAdd, N: 2, F: highest, E: highest}, api.Loop{Op: api.LEach, N: 300, E: highest})
	wantRegs(t, "the highest stack", 18, one(0, strings.Repeat("1 ", 16)+strings.Repeat("sel ", 7)+"add"))
	d := dice(9)
	for range 20000 {
		steps := thrownTree(&d, 9, 2, 24)
		if into := regsOf(saidTree(steps, 2, 2)); into > 21 {
			t.Errorf("%d registers: %s", into, plain(steps))
		}
	}
}

// P17.1: more than MaxRegs registers are too many. No tree comes to that, so this asks what
// the code has come to.
func TestTooManyRegs(t *testing.T) {
	for register, want := range map[int]bool{2: false, 20: false, 38: false, 39: false, 40: true, 41: true, 300: true} {
		c := coder{regs: fewestRegs}
		c.add(api.Ins{Op: api.INum, R: 1}, api.Ins{Op: api.INum, R: register}, api.Ins{Op: api.INum, R: 2})
		wantSame(t, fmt.Sprint("the register ", register), c.hasTooMuch(), want)
		c.add(api.Ins{Op: api.INum, R: 0})
		wantSame(t, fmt.Sprint("the register ", register, " and others"), c.hasTooMuch(), want)
	}
}
