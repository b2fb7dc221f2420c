package mean

import (
	"slices"

	"loomwork/api"
)

// slip puts something else at one place of a system, in memory of its own.
func slip(d *dice, s *api.System) {
	number := func() int {
		return pick(d, append(upTo(-1, len(s.Vars)+1), 299, 300, 301, 1000000, 1000001, -1000001, greatest, least))
	}
	s.Vars, s.In, s.Out, s.Rules = slices.Clone(s.Vars), slices.Clone(s.In), slices.Clone(s.Out), slices.Clone(s.Rules)
	switch d.below(12) {
	case 0:
		pickFrom(d, s.Vars).Elem = "ibx"[d.below(3)]
	case 1:
		pickFrom(d, s.Vars).N = pick(d, []int{-1, 0, 1, 2, 3, 4, 299, 300, 301})
	case 2:
		*pickFrom(d, s.In) = number()
	case 3:
		*pickFrom(d, s.Out) = number()
	case 4:
		if len(s.Rules) > 0 {
			at := d.below(len(s.Rules))
			s.Rules = slices.Delete(s.Rules, at, at+1)
		}
	case 5:
		s.In = s.In[:d.below(len(s.In)+1)]
	default:
		slipInRule(d, pickFrom(d, s.Rules), number)
	}
}

func slipInRule(d *dice, r *api.Rule, number func() int) {
	r.A, r.E = slices.Clone(r.A), slices.Clone(r.E)
	switch d.below(11) {
	case 0:
		r.Op = d.below(18)
	case 1:
		r.K = d.below(16)
	case 2:
		r.Out = number()
	case 3:
		r.N = int64(pick(d, []int{-1, 0, 1, 2, 3, 300, 301, greatest, least}))
	case 4:
		r.A = append(r.A, number())
	case 5, 6, 7:
		*pickFrom(d, r.A) = number()
	case 8:
		step := api.Push{Op: d.below(10), K: d.below(16), V: number(), N: int64(number())}
		r.E = slices.Insert(r.E, d.below(len(r.E)+1), slices.Repeat([]api.Push{step}, pick(d, []int{1, 1, 1, api.MaxTree}))...)
	case 9:
		*pickFrom(d, r.E) = api.Push{Op: d.below(10), K: d.below(16), V: number(), N: int64(d.below(4))}
	default:
		p := pickFrom(d, r.E)
		p.V, p.N = number(), int64(pick(d, []int{-1, 0, 1, 2, 1000000, 1000001, greatest}))
	}
}

// pickFrom points at one of a list; of none at something that is nowhere.
func pickFrom[T any](d *dice, list []T) *T {
	if len(list) == 0 {
		return new(T)
	}
	return &list[d.below(len(list))]
}
