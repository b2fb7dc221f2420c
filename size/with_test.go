package size

import (
	"math"
	"slices"
	"testing"

	"loomwork/api"
)

// P4.3: each name that is one of names is the size of l at its place.
func TestWith(t *testing.T) {
	m1 := sum(1, "m", 1, "")
	wantWith(t, "the chapter's", sum(2, "n"), []string{"n"}, []api.Size{m1}, sum(2, "m", 2, ""))
	wantWith(t, "among others", sum(2, "n", 1, "k"), []string{"n"}, []api.Size{m1}, sum(2, "m", 2, "", 1, "k"))
	wantWith(t, "several", sum(2, "a", 3, "b", 5, "c"), []string{"c", "a", "b"}, []api.Size{sum(1, "z"), sum(1, "x", 10, ""), sum(-1, "y")},
		sum(2, "x", 20, "", -3, "y", 5, "z"))
	wantWith(t, "one name, over and over", sum(1, "n", 2, "n", -1, "n"), []string{"n"}, []api.Size{m1},
		sum(1, "m", 1, "", 2, "m", 2, "", -1, "m", -1, ""))
	wantWith(t, "signs", sum(-2, "n"), []string{"n"}, []api.Size{sum(-3, "m", 4, "")}, sum(6, "m", -8, ""))
	wantWith(t, "N of 0", sum(0, "n", 2, "k"), []string{"n", "k"}, []api.Size{m1, sum(0, "m", 0, "")}, sum(0, "m", 0, "", 0, "m", 0, ""))
	wantWith(t, "terms in their order, not summed up", sum(1, "b", 1, "a", 1, "b"), []string{"a"}, []api.Size{sum(1, "b", 1, "b", -1, "b")},
		sum(1, "b", 1, "b", 1, "b", -1, "b", 1, "b"))
}

// P4.3: of a name that is there twice, the first place counts.
func TestWithTwice(t *testing.T) {
	one, two := sum(1, ""), sum(2, "")
	wantWith(t, "both have sizes", sum(1, "n"), []string{"n", "n"}, []api.Size{one, two}, one)
	wantWith(t, "with others between", sum(1, "n", 1, "m"), []string{"k", "n", "m", "n", "m"}, []api.Size{nil, one, two, two, one}, sum(1, "", 2, ""))
	wantWith(t, "the second has none", sum(1, "n"), []string{"n", "n"}, []api.Size{one}, one)
	wantWith(t, "the first is without terms", sum(1, "n"), []string{"n", "n"}, []api.Size{nil, two}, nil)
	wantWith(t, "neither has one", sum(1, "n"), []string{"m", "n", "n"}, []api.Size{one}, sum(1, "n"))
}

// P4.3: what stays as it is.
func TestWithStays(t *testing.T) {
	s := sum(4, "b", 3, "", 2, "a", 0, "n", 4, "b", -4, "b")
	one := sum(1, "")
	wantWith(t, "no names", s, nil, nil, s)
	wantWith(t, "no names, but sizes", s, nil, []api.Size{one, one}, s)
	wantWith(t, "names, but no sizes", s, []string{"a", "b", "n"}, nil, s)
	wantWith(t, "other names", s, []string{"ab", "B", "nn", "a "}, []api.Size{one, one, one, one}, s)
	wantWith(t, "l is shorter", s, []string{"z", "a", "b", "n"}, []api.Size{one}, s)
	wantWith(t, "one of two has a size", sum(2, "a", 3, "b"), []string{"a", "b"}, []api.Size{one}, sum(2, "", 3, "b"))
	wantWith(t, "l is longer", sum(2, "a", 3, "b"), []string{"a"}, []api.Size{one, one, one}, sum(2, "", 3, "b"))
	wantWith(t, "the empty name among names", sum(3, "", 2, "a"), []string{"", "a"}, []api.Size{sum(7, "x"), one}, sum(3, "", 2, ""))
	wantWith(t, "a name that is itself", sum(3, "a"), []string{"a"}, []api.Size{sum(1, "a")}, sum(3, "a"))
	wantWith(t, "nil", nil, []string{"a"}, []api.Size{one}, nil)
	wantWith(t, "empty", api.Size{}, []string{"a"}, []api.Size{one}, nil)
}

// P4.3: what was put in is not put into again.
func TestWithOnce(t *testing.T) {
	wantWith(t, "a round", sum(1, "a", 2, "b"), []string{"a", "b"}, []api.Size{sum(3, "b"), sum(5, "a")}, sum(3, "b", 10, "a"))
	wantWith(t, "itself and more", sum(2, "a"), []string{"a"}, []api.Size{sum(1, "a", 1, "a", 1, "")}, sum(2, "a", 2, "a", 2, ""))
	wantWith(t, "a name that is ahead", sum(2, "b"), []string{"a", "b"}, []api.Size{sum(9, ""), sum(1, "a")}, sum(2, "a"))
	wantWith(t, "a name that comes later", sum(2, "a"), []string{"a", "b"}, []api.Size{sum(1, "b"), sum(1000001, "")}, sum(2, "b"))
}

// P4.3: a size without terms: no term comes, and nothing is multiplied.
func TestWithNoTerms(t *testing.T) {
	for _, none := range []api.Size{nil, {}, make(api.Size, 0, 4)} {
		wantWith(t, "the only one", sum(2, "n"), []string{"n"}, []api.Size{none}, nil)
		wantWith(t, "among others", sum(1, "a", 2, "n", 3, "b"), []string{"n"}, []api.Size{none}, sum(1, "a", 3, "b"))
		for _, n := range []int{1000001, -1000001, math.MaxInt64, math.MinInt64} {
			wantWith(t, "not multiplied", sum(n, "n", 3, "b"), []string{"n"}, []api.Size{none}, sum(3, "b"))
		}
		wantWith(t, "far more than 1000 that go", times(1<<16, 1000001, "n"), []string{"n"}, []api.Size{none}, nil)
	}
}

// P4.3: an N that is multiplied, at both edges and beyond, on either side.
func TestWithRange(t *testing.T) {
	names := []string{"n"}
	for _, n := range []int{1000000, -1000000} {
		wantWith(t, "the outer one at an edge", sum(n, "n"), names, []api.Size{sum(3, "m")}, sum(3*n, "m"))
		wantWith(t, "the inner one at an edge", sum(3, "n"), names, []api.Size{sum(n, "m")}, sum(3*n, "m"))
		for _, m := range []int{1000000, -1000000} {
			wantWith(t, "both", sum(n, "n"), names, []api.Size{sum(m, "m", m, "")}, sum(n*m, "m", n*m, ""))
		}
	}
	for _, n := range []int{1000001, -1000001, 1 << 32, -1 << 32, math.MaxInt64, math.MinInt64} {
		for _, m := range []int{0, 1, -1, 1000000, n} {
			wantWithFault(t, "the outer one", sum(n, "n"), names, []api.Size{sum(m, "m")}, api.ErrRange)
			wantWithFault(t, "the inner one", sum(m, "n"), names, []api.Size{sum(n, "m")}, api.ErrRange)
			wantWithFault(t, "the inner one, without a name", sum(m, "n"), names, []api.Size{sum(n, "")}, api.ErrRange)
		}
		wantWithFault(t, "the last inner one", sum(1, "n"), names, []api.Size{sum(1, "m", 1, "", n, "k")}, api.ErrRange)
		wantWithFault(t, "the last outer one", sum(1, "n", 1, "m", n, "n"), names, []api.Size{sum(1, "m")}, api.ErrRange)
		wantWithFault(t, "of the last name", sum(1, "n", 1, "m"), []string{"n", "m"}, []api.Size{sum(1, "m"), sum(n, "")}, api.ErrRange)
		wantWithFault(t, "its name's first place", sum(1, "n"), []string{"m", "n", "n"}, []api.Size{sum(1, ""), sum(n, "m"), sum(1, "")}, api.ErrRange)
	}
}

// P4.3: an N that is not multiplied may lie beyond.
func TestWithNotMultiplied(t *testing.T) {
	one := sum(1, "")
	for _, n := range []int{1000001, -1000001, math.MaxInt64, math.MinInt64} {
		s := sum(n, "a", n, "", 2, "n", n, "b")
		wantWith(t, "names that are not there", s, []string{"n"}, []api.Size{one}, sum(n, "a", n, "", 2, "", n, "b"))
		wantWith(t, "names without a size", s, []string{"n", "a", "b"}, []api.Size{one}, sum(n, "a", n, "", 2, "", n, "b"))
		wantWith(t, "no name", s, []string{"n", ""}, []api.Size{one, one}, sum(n, "a", n, "", 2, "", n, "b"))
		wantWith(t, "sizes that nobody asks for", sum(2, "n"), []string{"m", "n", "n"}, []api.Size{sum(n, ""), one, sum(n, ""), sum(n, "")}, sum(2, ""))
	}
}

// P4.3: just 1000 terms that come, and one more.
func TestWithMany(t *testing.T) {
	names := []string{"n"}
	wantWith(t, "1000 that stay", rising(1000), names, []api.Size{nil}, rising(1000))
	wantWithFault(t, "1001 that stay", rising(1001), names, []api.Size{nil}, api.ErrMany)
	wantWithFault(t, "1001 that stay, without names", times(1001, 0, ""), nil, nil, api.ErrMany)
	wantWith(t, "1000 of one", sum(1, "n"), names, []api.Size{rising(1000)}, rising(1000))
	wantWithFault(t, "1001 of one", sum(1, "n"), names, []api.Size{rising(1001)}, api.ErrMany)
	wantWith(t, "20 times 50", times(20, 1, "n"), names, []api.Size{times(50, 2, "m")}, times(1000, 2, "m"))
	wantWithFault(t, "20 times 50 and one", append(times(20, 1, "n"), api.Term{}), names, []api.Size{times(50, 2, "m")}, api.ErrMany)
	wantWithFault(t, "one and 20 times 50", append(sum(1, ""), times(20, 1, "n")...), names, []api.Size{times(50, 2, "m")}, api.ErrMany)
	wantWithFault(t, "1001 times 1", times(1001, 1, "n"), names, []api.Size{sum(1, "")}, api.ErrMany)
	gone := slices.Concat(times(5000, 1, "k"), times(999, 1, "n"), sum(1, "a"))
	wantWith(t, "6000, most of which go", gone, []string{"n", "k"}, []api.Size{sum(1, "a"), nil}, times(1000, 1, "a"))
	wantWithFault(t, "far too many to be gone through", times(1<<20, 1, "n"), names, []api.Size{times(1<<20, 1, "m")}, api.ErrMany)
}

// P4.3: ErrRange is told ahead of ErrMany, wherever it is so.
func TestWithFirstFault(t *testing.T) {
	names, l := []string{"n", "m"}, []api.Size{sum(1, "a"), sum(1, "", 1000001, "")}
	for _, at := range []int{0, 1000, 2000} {
		outer, inner := times(2001, 1, "n"), times(2001, 1, "n")
		outer[at].N = -1000001
		inner[at].Name = "m"
		wantWithFault(t, "too many and the outer one", outer, names, l, api.ErrRange)
		wantWithFault(t, "too many and the inner one", inner, names, l, api.ErrRange)
	}
	long := times(2001, 1, "a")
	long[2000].N = 1000001
	wantWithFault(t, "in one size", sum(1, "n"), names, []api.Size{long}, api.ErrRange)
	wantWithFault(t, "in one size, far too many times", times(1<<20, 1, "n"), names, []api.Size{append(times(1<<20, 1, "m"), api.Term{N: 1000001})}, api.ErrRange)
	stays := times(2001, 1000001, "k")
	wantWithFault(t, "too many, none multiplied", stays, names, l, api.ErrMany)
}
