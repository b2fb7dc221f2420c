package image

import "loomwork/api"

// A number's bytes have a group of its bits each, the lowest ones first.
const (
	groupBits  = 7
	goesOn     = 1 << groupBits // is added to all of a number's bytes but the last
	mostGroups = 10             // has a number of 64 bits
)

// withImage puts an image's numbers behind bytes.
func withImage(b []byte, m api.Image) []byte {
	b = withNumbers(b, m.Cells, m.Regs, m.Cost)
	for _, list := range [][]int{m.Put, m.Bools, m.Get} {
		b = withNumbers(b, len(list))
		b = withNumbers(b, list...)
	}
	b = withNumbers(b, len(m.Code))
	for _, i := range m.Code {
		b = withNumbers(b, i.Op, i.K, i.R, i.A, i.B, int(i.N))
	}
	return b
}

// withNumbers puts numbers behind bytes, one behind the other.
func withNumbers(b []byte, numbers ...int) []byte {
	for _, n := range numbers {
		left := folded(int64(n))
		for ; left >= goesOn; left >>= groupBits {
			b = append(b, goesOn|byte(left))
		}
		b = append(b, byte(left))
	}
	return b
}

// folded lays the numbers below 0 between the others, so that those near 0 on either side
// take few bytes.
func folded(n int64) uint64 {
	if n < 0 {
		return uint64(-(n+1))<<1 + 1
	}
	return uint64(n) << 1
}

// unfolded answers the number that is folded so.
func unfolded(n uint64) int64 {
	half := int64(n >> 1)
	if n%2 == 1 {
		return -half - 1
	}
	return half
}
