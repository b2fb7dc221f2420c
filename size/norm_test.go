package size

import (
	"math"
	"slices"
	"testing"

	"loomwork/api"
)

// P4.1: the terms by their names, rising, that without a name first.
func TestNormOrder(t *testing.T) {
	wantNorm(t, "the chapter's", sum(2, "n", 3, "", -1, "n"), sum(3, "", 1, "n"))
	wantNorm(t, "falling", sum(1, "c", 2, "b", 3, "a", 4, ""), sum(4, "", 3, "a", 2, "b", 1, "c"))
	wantNorm(t, "rising", sum(4, "", 3, "a", 2, "b", 1, "c"), sum(4, "", 3, "a", 2, "b", 1, "c"))
	wantNorm(t, "one ahead of another", sum(1, "ab", 1, "a", 1, "aa", 1, "b"), sum(1, "a", 1, "aa", 1, "ab", 1, "b"))
	wantNorm(t, "digits", sum(1, "n10", 1, "n9", 1, "n1", 1, "n"), sum(1, "n", 1, "n1", 1, "n10", 1, "n9"))
	wantNorm(t, "whatever bytes", sum(1, "\xff", 1, "é", 1, "a", 1, "Z", 1, "\x00", 1, " "),
		sum(1, "\x00", 1, " ", 1, "Z", 1, "a", 1, "é", 1, "\xff"))
	wantNorm(t, "names below 0", sum(-1, "b", -2, "a"), sum(-2, "a", -1, "b"))
}

// P4.1: each name once, with the sum of its N.
func TestNormSums(t *testing.T) {
	wantNorm(t, "apart", sum(1, "a", 2, "b", 3, "a", 4, "b", 5, "a"), sum(9, "a", 6, "b"))
	wantNorm(t, "without a name", sum(1, "", 2, "", -7, ""), sum(-4, ""))
	wantNorm(t, "side by side", sum(1, "a", 1, "a", 1, "a"), sum(3, "a"))
	wantNorm(t, "names that differ in their ends", sum(1, "a", 1, "a\x00", 1, "a "), sum(1, "a", 1, "a\x00", 1, "a "))
	most := times(1000, 1000000, "n")
	wantNorm(t, "the greatest sum", most, sum(1000000000, "n"))
	wantNorm(t, "the least sum", times(1000, -1000000, ""), sum(-1000000000, ""))
}

// P4.1: none whose sum is 0.
func TestNormNoughts(t *testing.T) {
	wantNorm(t, "nil", nil, nil)
	wantNorm(t, "empty", api.Size{}, nil)
	wantNorm(t, "0", sum(0, ""), nil)
	wantNorm(t, "0 n", sum(0, "n"), nil)
	wantNorm(t, "n - n", sum(1, "n", -1, "n"), nil)
	wantNorm(t, "a way to 0", sum(1, "n", 4, "", 1, "n", 1, "m", -2, "n"), sum(4, "", 1, "m"))
	wantNorm(t, "through 0", sum(1, "n", -1, "n", 5, "n"), sum(5, "n"))
	wantNorm(t, "0 among others", sum(0, "b", 1, "a", 0, "", 1, "c"), sum(1, "a", 1, "c"))
	wantNorm(t, "the last", sum(1, "a", 2, "b", -2, "b"), sum(1, "a"))
}

// P4.1: 1000 terms, and one more.
func TestNormMany(t *testing.T) {
	wantNorm(t, "1000 names", rising(1000), rising(1000))
	back := rising(1000)
	slices.Reverse(back)
	wantNorm(t, "1000 names, falling", back, rising(1000))
	wantNorm(t, "1000 terms of one name", times(1000, 1, "n"), sum(1000, "n"))
	wantNormFault(t, "1001 names", rising(1001), api.ErrMany, -1)
	wantNormFault(t, "1001 terms of one name", times(1001, 1, "n"), api.ErrMany, -1)
	wantNormFault(t, "1001 noughts", times(1001, 0, ""), api.ErrMany, -1)
	wantNormFault(t, "far too many", times(1<<20, 1, "n"), api.ErrMany, -1)
}

// P4.1: N at both edges, and beyond, with the number of the first such term.
func TestNormRange(t *testing.T) {
	for _, name := range []string{"", "n"} {
		for _, n := range []int{1000000, -1000000, 999999, -999999} {
			wantNorm(t, "at an edge", sum(n, name), sum(n, name))
		}
		for _, n := range []int{1000001, -1000001, math.MaxInt64, math.MinInt64, math.MinInt64 + 1, 1 << 32, -1 << 32} {
			wantNormFault(t, "the only term", sum(n, name), api.ErrRange, 0)
			for at := range 5 {
				s := sum(5, "e", 1000000, "d", 3, "", -1000000, "b", 1, "a")
				s[at] = api.Term{N: int64(n), Name: name}
				wantNormFault(t, "one of five", s, api.ErrRange, at)
				s = append(s, s[at], api.Term{N: -s[at].N, Name: name})
				wantNormFault(t, "the first of three", s, api.ErrRange, at)
			}
		}
	}
	last := rising(1000)
	last[999].N = 1000001
	wantNormFault(t, "the last of 1000", last, api.ErrRange, 999)
	wantNormFault(t, "all", times(1000, -1000001, "n"), api.ErrRange, 0)
	wantNormFault(t, "a sum that is not beyond", sum(1, "n", 1000001, "n", -1000001, "n"), api.ErrRange, 1)
	wantNorm(t, "a sum that is beyond", sum(1000000, "n", 1, "n"), sum(1000001, "n"))
}

// P4.1: ErrMany is told ahead of ErrRange.
func TestNormFirstFault(t *testing.T) {
	for _, at := range []int{0, 500, 1000} {
		s := rising(1001)
		s[at].N = 1000001
		wantNormFault(t, "too many and beyond", s, api.ErrMany, -1)
	}
}

// P4.2: sizes with one normal form.
func TestSame(t *testing.T) {
	n := sum(2, "n", 3, "", -1, "n")
	wantSame(t, "itself", n, n, true)
	wantSame(t, "its normal form", n, sum(3, "", 1, "n"), true)
	wantSame(t, "in another order", sum(1, "a", 2, "b", 3, ""), sum(3, "", 2, "b", 1, "a"), true)
	wantSame(t, "in more terms", sum(1, "a", 1, "a", 1, "b", 3, "", 1, "b"), sum(3, "", 2, "b", 2, "a"), true)
	wantSame(t, "another N", sum(1, "a"), sum(2, "a"), false)
	wantSame(t, "another sign", sum(1, "a"), sum(-1, "a"), false)
	wantSame(t, "another name", sum(1, "a"), sum(1, "b"), false)
	wantSame(t, "no name", sum(1, "a"), sum(1, ""), false)
	wantSame(t, "one term more", sum(1, "a"), sum(1, "a", 1, "b"), false)
	wantSame(t, "one number more", sum(1, "a"), sum(1, "a", 1, ""), false)
	wantSame(t, "numbers of others", sum(1, "a", 2, "b"), sum(2, "a", 1, "b"), false)
	wantSame(t, "1000 terms and one", times(1000, 1000, "n"), sum(1000000, "n"), true)
	wantSame(t, "sums beyond", times(2, 1000000, "n"), times(4, 500000, "n"), true)
}

// P4.2: sizes without terms.
func TestSameNoTerms(t *testing.T) {
	none := []api.Size{nil, {}, sum(0, "n"), sum(0, ""), sum(1, "n", -1, "n"), make(api.Size, 0, 3)}
	for _, a := range none {
		for _, b := range none {
			wantSame(t, "without terms", a, b, true)
		}
		wantSame(t, "1", a, sum(1, ""), false)
		wantSame(t, "n", a, sum(1, "n"), false)
	}
}

// P4.2: sizes that have no normal form are the same as none, not even themselves.
func TestSameNoNormalForm(t *testing.T) {
	formless := []api.Size{times(1001, 1, "n"), times(1001, 0, ""), sum(1000001, "n"), sum(-1000001, ""), sum(1, "n", 1000001, "m", -1000001, "m")}
	for _, a := range formless {
		for _, b := range formless {
			wantSame(t, "both without", a, b, false)
		}
		for _, b := range []api.Size{nil, {}, sum(1, "n"), sum(1001, "n"), sum(1000000, "n", 1, "n"), sum(-1000000, "", -1, "")} {
			wantSame(t, "one without", a, b, false)
		}
	}
}
