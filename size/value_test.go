package size

import (
	"math"
	"testing"

	"loomwork/api"
)

// P4.4: the number that comes, if each name is the number of l at its place.
func TestValue(t *testing.T) {
	wantValue(t, "the chapter's", sum(2, "n", -1, ""), []string{"n"}, []int{4}, 7)
	wantValue(t, "2 n + 3 - n", sum(2, "n", 3, "", -1, "n"), []string{"n"}, []int{4}, 7)
	wantValue(t, "several", sum(100, "a", 10, "b", 1, "c", 7000, ""), []string{"c", "a", "b"}, []int{3, 5, 8}, 7583)
	wantValue(t, "below 0", sum(-2, "a", 3, "b"), []string{"a", "b"}, []int{5, -7}, -31)
	wantValue(t, "a name that is 0", sum(5, "a", 1, ""), []string{"a"}, []int{0}, 1)
	wantValue(t, "names without numbers, of which none comes", sum(5, "a"), []string{"a", "b", "c"}, []int{2}, 10)
	wantValue(t, "more numbers than names", sum(5, "a"), []string{"a"}, []int{2, 3, 1000001}, 10)
	wantValue(t, "no terms", nil, []string{"a"}, []int{2}, 0)
	wantValue(t, "no names", sum(5, "", 6, ""), nil, nil, 11)
	wantValue(t, "empty", api.Size{}, []string{}, []int{}, 0)
	wantValue(t, "the empty name among names", sum(5, ""), []string{""}, []int{9}, 5)
	wantValue(t, "the empty name among names, and a number beyond", sum(5, ""), []string{""}, []int{1000001}, 5)
}

// P4.4: of a name that is there twice, the first place counts.
func TestValueTwice(t *testing.T) {
	wantValue(t, "both have numbers", sum(1, "n"), []string{"n", "n"}, []int{4, 5}, 4)
	wantValue(t, "the second has none", sum(1, "n"), []string{"n", "n"}, []int{4}, 4)
	wantValue(t, "the first is 0", sum(1, "n"), []string{"n", "n"}, []int{0, 5}, 0)
	wantValue(t, "the second is beyond", sum(1, "n"), []string{"n", "n"}, []int{4, 1000001}, 4)
	wantValueFault(t, "the first is beyond", sum(1, "n"), []string{"n", "n"}, []int{1000001, 4}, api.ErrRange, -1)
	wantValueFault(t, "neither has one", sum(1, "n"), []string{"m", "n", "n"}, []int{4}, api.ErrNone, -1)
}

// P4.4: a name that is not there, or has no number in l.
func TestValueNone(t *testing.T) {
	wantValueFault(t, "other names", sum(1, "n"), []string{"m", "nn", "N", "n "}, []int{1, 2, 3, 4}, api.ErrNone, -1)
	wantValueFault(t, "no names", sum(1, "n"), nil, []int{1}, api.ErrNone, -1)
	wantValueFault(t, "no numbers", sum(1, "n"), []string{"n"}, nil, api.ErrNone, -1)
	wantValueFault(t, "too few numbers", sum(1, "n"), []string{"m", "n"}, []int{1}, api.ErrNone, -1)
	wantValueFault(t, "the last", sum(1, "", 1, "a", 1, "b"), []string{"a"}, []int{1}, api.ErrNone, -1)
	wantValueFault(t, "the first", sum(1, "", 1, "a", 1, "b"), []string{"b"}, []int{1}, api.ErrNone, -1)
}

// P4.4: numbers at both edges and beyond.
func TestValueRange(t *testing.T) {
	names := []string{"a", "n"}
	for _, n := range []int{1000000, -1000000} {
		wantValue(t, "at an edge", sum(3, "n"), names, []int{1, n}, 3*n)
		for _, m := range []int{1000000, -1000000} {
			wantValue(t, "both at edges", sum(m, "n"), names, []int{1, n}, m*n)
			wantValue(t, "1000 terms", times(1000, int64(m), "n"), names, []int{1, n}, 1000*m*n)
		}
	}
	for _, n := range []int{1000001, -1000001, 1 << 32, -1 << 32, math.MaxInt64, math.MinInt64} {
		wantValueFault(t, "the only one", sum(1, "n"), names, []int{1, n}, api.ErrRange, -1)
		wantValueFault(t, "the last", sum(1, "a", 1, "", 1, "n"), names, []int{1, n}, api.ErrRange, -1)
		wantValueFault(t, "the first", sum(1, "n", 1, "", 1, "a"), names, []int{n, 1}, api.ErrRange, -1)
		wantValue(t, "one that nobody asks for", sum(2, "n"), names, []int{n, 1}, 2)
	}
}

// P4.4: names whose terms come to 0 need no number.
func TestValueNoughts(t *testing.T) {
	s := sum(0, "a", 2, "b", 3, "n", -2, "b", 0, "c")
	wantValue(t, "names that are not there", s, []string{"n"}, []int{5}, 15)
	wantValue(t, "names without numbers", s, []string{"n", "a", "b"}, []int{5}, 15)
	wantValue(t, "numbers beyond", s, []string{"a", "b", "c", "n"}, []int{1000001, math.MaxInt64, math.MinInt64, 5}, 15)
}

// P4.4: Norm's fault ahead of all, with its At.
func TestValueNormFault(t *testing.T) {
	names, l := []string{"a", "b"}, []int{1, 1000001}
	wantValueFault(t, "too many", times(1001, 1, "a"), names, l, api.ErrMany, -1)
	wantValueFault(t, "too many, and a name that is not there", rising(1001), names, l, api.ErrMany, -1)
	wantValueFault(t, "too many, and a number beyond", times(1001, 1, "b"), names, l, api.ErrMany, -1)
	for at := range 4 {
		for _, n := range []int64{1000001, -1000001, math.MaxInt64, math.MinInt64} {
			s := sum(1, "c", 1, "b", 1, "", 1, "a")
			s[at].N = n
			wantValueFault(t, "a term beyond", s, names, l, api.ErrRange, at)
		}
	}
	wantValueFault(t, "a term beyond that comes to 0", sum(1, "a", 1000001, "", -1000001, ""), names, l, api.ErrRange, 1)
	wantValue(t, "a sum beyond", sum(1000000, "a", 1, "a"), names, l, 1000001)
}

// P4.4: the first term of the normal form that has a fault tells it.
func TestValueFirstFault(t *testing.T) {
	names := []string{"a", "c", "z"}
	wantValueFault(t, "a beyond, b not there", sum(1, "a", 1, "b"), names, []int{1000001, 1}, api.ErrRange, -1)
	wantValueFault(t, "the same, the other way round", sum(1, "b", 1, "a"), names, []int{1000001, 1}, api.ErrRange, -1)
	wantValueFault(t, "b not there, c beyond", sum(1, "b", 1, "c"), names, []int{1, 1000001}, api.ErrNone, -1)
	wantValueFault(t, "the same, the other way round", sum(1, "c", 1, "b"), names, []int{1, 1000001}, api.ErrNone, -1)
	wantValueFault(t, "c beyond, z without a number", sum(1, "z", 1, "c"), names, []int{1, 1000001}, api.ErrRange, -1)
	wantValueFault(t, "b comes to 0, c beyond", sum(1, "b", 1, "z", 1, "c", -1, "b"), names, []int{1, 1000001}, api.ErrRange, -1)
}
