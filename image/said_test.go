package image

import (
	"math/big"
	"slices"
	"testing"

	"loomwork/api"
	"loomwork/code"
)

// saidNumber is a number's bytes, by the chapter's words: 2 n or -2 n - 1, without a
// bound, and then the remainders of 128.
func saidNumber(n int64) []byte {
	left := new(big.Int).Mul(big.NewInt(n), big.NewInt(2))
	if n < 0 {
		left.Neg(left).Sub(left, big.NewInt(1))
	}
	var b []byte
	for len(b) == 0 || left.Sign() != 0 {
		group := new(big.Int)
		left.QuoRem(left, big.NewInt(128), group)
		b = append(b, byte(group.Int64())+128)
	}
	b[len(b)-1] -= 128
	return b
}

func saidNumbers(list ...int64) []byte {
	var b []byte
	for _, n := range list {
		b = append(b, saidNumber(n)...)
	}
	return b
}

// saidBetween is what stands between an image's first three bytes and its sum.
func saidBetween(m api.Image) []byte {
	list := []int64{int64(m.Cells), int64(m.Regs), int64(m.Cost)}
	for _, cells := range [][]int{m.Put, m.Bools, m.Get} {
		list = append(list, int64(len(cells)))
		for _, cell := range cells {
			list = append(list, int64(cell))
		}
	}
	list = append(list, int64(len(m.Code)))
	for _, i := range m.Code {
		list = append(list, int64(i.Op), int64(i.K), int64(i.R), int64(i.A), int64(i.B), i.N)
	}
	return saidNumbers(list...)
}

// stretch is a number's bytes: from where to where they go, and what they say.
type stretch struct {
	from, to int
	n        int64
}

// saidStretches cuts what is between into numbers, as far as it can be, and tells why it
// goes no further.
func saidStretches(b []byte, end int) ([]stretch, api.Fault) {
	var list []stretch
	for from := 3; from < end; {
		length := 1 + slices.IndexFunc(b[from:end], func(b byte) bool { return b < 128 })
		isOver := length > 0
		if !isOver {
			length = end - from
		}
		if length >= 10 && b[from+9] > 1 {
			return list, api.Fault{Code: api.ErrNumber, At: from + 9}
		}
		if !isOver {
			break
		}
		to := from + length
		if length > 1 && b[to-1] == 0 {
			return list, api.Fault{Code: api.ErrNumber, At: to - 1}
		}
		list = append(list, stretch{from, to, saidMeant(b[from:to])})
		from = to
	}
	return list, api.Fault{Code: api.ErrShort, At: end}
}

// saidMeant is the number whose bytes these are.
func saidMeant(b []byte) int64 {
	n := new(big.Int)
	for i, each := range b {
		group := big.NewInt(int64(each % 128))
		n.Add(n, group.Lsh(group, uint(7*i)))
	}
	if n.Bit(0) == 1 {
		n.Neg(n.Add(n, big.NewInt(1)))
	}
	return n.Quo(n, big.NewInt(2)).Int64()
}

// tale goes over stretches; it panics with a fault.
type tale struct {
	list []stretch
	why  api.Fault // that there are no more of them
	end  int
	last stretch // that was gone over
}

func (a *tale) next() int64 {
	if len(a.list) == 0 {
		panic(a.why)
	}
	a.last, a.list = a.list[0], a.list[1:]
	return a.last.n
}

func (a *tale) count(each int64) int64 {
	count := new(big.Int).SetInt64(a.next())
	asked := new(big.Int).Mul(count, big.NewInt(each))
	if count.Sign() < 0 || asked.Cmp(big.NewInt(int64(a.end-a.last.to))) > 0 {
		panic(api.Fault{Code: api.ErrMany, At: a.last.from})
	}
	return count.Int64()
}

// saidDecoded is what bytes are, by the chapter's words.
func saidDecoded(b []byte) (m api.Image, fault api.Fault) {
	if len(b) < 7 {
		return m, api.Fault{Code: api.ErrShort, At: len(b)}
	}
	if b[0] != 76 || b[1] != 87 || b[2] != 1 {
		return m, api.Fault{Code: api.ErrForm, At: 0}
	}
	end := len(b) - 4
	if !slices.Equal(summed(b[:end]), b) {
		return m, api.Fault{Code: api.ErrSum, At: end}
	}
	defer func() {
		if why, is := recover().(api.Fault); is {
			m, fault = api.Image{}, why
		}
	}()
	list, why := saidStretches(b, end)
	a := &tale{list: list, why: why, end: end, last: stretch{to: 3}}
	m = a.image()
	if a.last.to < end {
		panic(api.Fault{Code: api.ErrForm, At: a.last.to})
	}
	if code.Check(m).Code != 0 {
		panic(api.Fault{Code: api.ErrCode, At: end})
	}
	return m, api.Fault{}
}

func (a *tale) image() api.Image {
	m := api.Image{Cells: int(a.next()), Regs: int(a.next()), Cost: int(a.next())}
	for which := range 3 {
		cells := make([]int, a.count(1))
		for i := range cells {
			cells[i] = int(a.next())
		}
		*[]*[]int{&m.Put, &m.Bools, &m.Get}[which] = cells
	}
	m.Code = make([]api.Ins, a.count(6))
	for at := range m.Code {
		m.Code[at] = api.Ins{Op: int(a.next()), K: int(a.next()), R: int(a.next()), A: int(a.next()), B: int(a.next()), N: a.next()}
	}
	return m
}

// holdAgainstSaid holds what bytes are against the chapter's words; of an image, that its
// bytes are these. It answers the fault's code.
func holdAgainstSaid(t *testing.T, what string, b []byte) int {
	t.Helper()
	m, fault := saidDecoded(b)
	if fault.Code != 0 {
		wantBar(t, what, b, fault.Code, fault.At)
		return fault.Code
	}
	wantDecoded(t, what, b, m)
	wantEncoded(t, what+", back", m, b)
	return 0
}

// saidSum is a CRC-32 as the remainder of a polynomial over truths: the bits of the bytes,
// each byte's lowest one first, with 32 of 0 behind, and the first 32 of these turned;
// divided by the polynomial; the remainder with its bits turned, the first one the lowest.
func saidSum(b []byte) uint32 {
	var bits []bool
	for _, each := range b {
		for k := range 8 {
			bits = append(bits, each>>k&1 == 1)
		}
	}
	bits = append(bits, make([]bool, 32)...)
	for k := range 32 {
		bits[k] = !bits[k]
	}
	for k := range 8 * len(b) {
		for power := range 33 { // from the highest one on
			if bits[k] && power > 0 && 0x104C11DB7>>(32-power)&1 == 1 {
				bits[k+power] = !bits[k+power]
			}
		}
	}
	var sum uint32
	for k, bit := range bits[8*len(b):] {
		if !bit {
			sum |= 1 << k
		}
	}
	return sum
}
