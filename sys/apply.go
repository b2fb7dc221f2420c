package sys

import "loomwork/api"

// Apply answers what an operator makes of its numbers (one of one: of a); 0, if
// there is no such operator.
func Apply(k int, a, b int64) int64 {
	switch k {
	case api.KAdd:
		return a + b
	case api.KSub:
		return a - b
	case api.KMul:
		return a * b
	case api.KDiv, api.KMod:
		return divided(k, a, b)
	case api.KMin:
		return min(a, b)
	case api.KMax:
		return max(a, b)
	case api.KLess:
		return truth(a < b)
	case api.KEq:
		return truth(a == b)
	case api.KNeg:
		return -a
	}
	return ofTruths(k, a != 0, b != 0)
}

// divided by 0 is 0. The least number by -1 needs no case of its own: Go's / and
// % wrap round there.
func divided(k int, a, b int64) int64 {
	switch {
	case b == 0:
		return 0
	case k == api.KDiv:
		return a / b
	}
	return a % b
}

func ofTruths(k int, a, b bool) int64 {
	switch k {
	case api.KAnd:
		return truth(a && b)
	case api.KOr:
		return truth(a || b)
	case api.KXor:
		return truth(a != b)
	case api.KNot:
		return truth(!a)
	}
	return 0
}

func truth(isSo bool) int64 {
	if isSo {
		return 1
	}
	return 0
}
