package emit

import (
	"fmt"
	"slices"
	"strings"
	"testing"

	"loomwork/api"
)

// place11 is a tree whose code is 133 instructions: one, and 11 times one and eleven.
const place11 = "1 1 t0,1 1 t0,1 1 t0,1 1 t0,1 1 t0,1 1 t0,1 1 t0,1 1 t0,1 1 t0,1 1 t0,1 1 t0,1"

// weighing are steps whose code is just so many instructions, two or more.
func weighing(count int) []api.Loop {
	var steps []api.Loop
	for count > 0 {
		s, size := one(0, "1"+strings.Repeat(" neg", min(count, 25)-2)), min(count, 25)
		if count >= 273 {
			s, size = scan(api.KAdd, 0, 1, place11+" neg", place11+" neg"), 273
		} else if count >= 134 {
			s, size = one(0, place11), 134
		}
		if count-size == 1 {
			s, size = one(0, "1 neg"), 3
		}
		steps, count = append(steps, s), count-size
	}
	return steps
}

func TestWeighing(t *testing.T) {
	for count := 2; count <= 1000; count++ {
		wantSame(t, fmt.Sprint(count), len(made(t, "weighing", over(1, ">", weighing(count)...)).Code), count)
	}
}

// lastOnes are steps of each Op with how many instructions their code is.
func lastOnes() map[int]api.Loop {
	return map[int]api.Loop{2: one(0, "1"), 3: one(0, "c0 neg"), 4: each(0, 1, "a0"), 5: each(0, 1, "k"),
		7: fold(api.KAdd, 0, 1, "1", "2"), 8: scan(api.KAdd, 0, 1, "1", "2 neg"), 14: one(0, "1 2 t0,1"), 134: one(0, place11)}
}

// P17.1: just as many instructions as there may be, and one more: then ErrMany is told at
// the number of the step with whose code they are so many, whatever stands behind it.
func TestMostCode(t *testing.T) {
	for size, s := range lastOnes() {
		steps := weighing(200000 - size)
		m := made(t, "the most", over(1, "> 0", append(steps, s)...))
		wantSame(t, fmt.Sprint("the most, the last ", size), []int{len(m.Code), len(m.Put), m.Regs}, []int{200000, 0, 7})
		for _, behind := range [][]api.Loop{nil, {one(0, "1")}, weighing(5000)} {
			for _, more := range []int{1, 2} {
				steps := weighing(200000 + more - size)
				if more >= size {
					continue
				}
				l := over(1, "> 0", slices.Concat(steps, []api.Loop{s}, behind)...)
				wantFault(t, fmt.Sprint(more, " more, the last ", size), l, nil, api.ErrMany, len(steps))
			}
		}
	}
}

// P17.1: one more step beside the most is one too many, wherever it stands.
func TestOneStepMore(t *testing.T) {
	steps := weighing(200000)
	made(t, "the most", over(1, "> 0", steps...))
	wantFault(t, "and one more", over(1, "> 0", append(slices.Clone(steps), one(0, "1"))...), nil, api.ErrMany, len(steps))
	wantFault(t, "one more ahead", over(1, "> 0", append([]api.Loop{one(0, "1")}, steps...)...), nil, api.ErrMany, len(steps))
	middle := slices.Insert(slices.Clone(steps), 300, one(0, "1"))
	wantFault(t, "one more in the middle", over(1, "> 0", middle...), nil, api.ErrMany, len(steps))
}

// P17.1: as many steps as there may be: of the longest ones only so many, of others all.
func TestMostSteps(t *testing.T) {
	long := slices.Repeat(weighing(273), 1200)
	wantSame(t, "long ones", len(long), 1200)
	wantFault(t, "long ones", over(1, ">", long...), nil, api.ErrMany, 200000/273)
	wantFault(t, "and one more than there may be", over(1, ">", append(long, long[0])...), nil, api.ErrMany, -1)
	short := slices.Repeat(weighing(134), 1200)
	m := made(t, "others", over(1, ">", short...))
	wantSame(t, "others", []int{len(m.Code), m.Cost}, []int{1200 * 134, 1200 * 134})
}

// P17.1: it is instructions that are counted, not how many are done.
func TestTurnsAreNotCounted(t *testing.T) {
	m := made(t, "turns", over(300, ">", slices.Repeat([]api.Loop{each(0, 300, "a0 neg")}, 1200)...))
	wantSame(t, "turns", []int{len(m.Code), m.Cost}, []int{1200 * 5, 1200 * 1201})
}
