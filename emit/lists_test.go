package emit

import (
	"fmt"
	"slices"
	"testing"

	"loomwork/api"
)

// P17.1: Cells, Put and Get are the loops', Bools are bools: in their order, with those
// that come twice.
func TestLists(t *testing.T) {
	for _, lists := range []struct{ put, get, bools string }{
		{"", "", ""}, {"0", "", ""}, {"", "0", ""}, {"", "", "0"}, {"1 2 3", "4 5", "1 3"}, {"3 1 2", "5 4 5", "2 3 2"}, {"8 8 8 0", "8 0 8", "0 8 0"},
	} {
		l := over(9, lists.put+">"+lists.get, one(8, "c0"), one(1, "2"))
		m := made(t, "lists", l, ints(lists.bools)...)
		want := api.Image{Cells: 9, Regs: 3, Cost: 4, Put: ints(lists.put), Bools: ints(lists.bools), Get: ints(lists.get), Code: instructions(2, "load s0 0; store s0 8; num s0 2; store s0 1")}
		wantSame(t, "lists", m, want)
	}
	for _, cells := range []int{1, 2, 300, 5999, 6000} {
		wantSame(t, "Cells", made(t, "Cells", over(cells, ">", one(0, "1"))).Cells, cells)
	}
}

// P17.1: as many Put and Get as loop.Check lets there be.
func TestLongLists(t *testing.T) {
	put, get, bools := upTo(0, 6000), slices.Repeat(upTo(0, 6000), 20), upTo(0, 6000)
	slices.Reverse(bools)
	l := api.Loops{Cells: 6000, Put: put, Get: get, Steps: []api.Loop{one(5999, "c5999")}}
	m := made(t, "long lists", l, bools...)
	if !slices.Equal(m.Put, put) || !slices.Equal(m.Get, get) || !slices.Equal(m.Bools, bools) {
		t.Errorf("long lists: %.300v, %.300v, %.300v", m.Put, m.Get, m.Bools)
	}
	l.Put = make([]int, 6001)
	wantFault(t, "one Put more", l, bools, api.ErrMany, -1)
	l.Put, l.Get = put, make([]int, 120001)
	wantFault(t, "one Get more", l, bools, api.ErrMany, -1)
}

// junk are numbers for fields that are not there.
func junk() []int { return []int{1, -1, 2, 300, 301, 6000, 1 << 32, greatest, least} }

// P17.1: fields that a step of loops does not have may be anything, and reach nothing.
func TestOtherFieldsOfSteps(t *testing.T) {
	long := slices.Repeat(tree("c0"), 100)
	for _, n := range junk() {
		s := one(3, "c1 2 add")
		want, _ := saidStep(s)
		s.K, s.N, s.F = n, n, []api.Push{{Op: n, K: n, V: n, N: int64(n)}}
		wantCode(t, fmt.Sprint("LOne with ", n), 9, s, 4, want)
		s.F = long
		wantCode(t, fmt.Sprint("LOne with ", n, " and a long F"), 9, s, 4, want)
		s = each(3, 2, "a1 2 add")
		want, _ = saidStep(s)
		s.K, s.F = n, []api.Push{{Op: n, K: n, V: n, N: int64(n)}}
		wantCode(t, fmt.Sprint("LEach with ", n), 9, s, 4, want)
		s.F = deepPlace(16)
		wantCode(t, fmt.Sprint("LEach with ", n, " and a deep F"), 9, s, 4, want)
	}
}

// P17.1: fields that a tree's step does not have may be anything, and reach nothing.
func TestOtherFieldsOfTrees(t *testing.T) {
	for _, p := range parts(3) {
		for _, n := range junk() {
			steps := tree(p.tree)
			for i := range steps {
				q := &steps[i]
				if q.Op != api.PUn && q.Op != api.PBin {
					q.K = n
				}
				if q.Op != api.PSca && q.Op != api.PArr && q.Op != api.PAt {
					q.V = n
				}
				if q.Op != api.PNum && q.Op != api.PIdx && q.Op != api.PAt {
					q.N = int64(n)
				}
			}
			wantTree(t, fmt.Sprint(p.name, " with ", n), steps, 3, instructions(2, p.inLoop), instructions(2, p.inNone))
		}
	}
}
