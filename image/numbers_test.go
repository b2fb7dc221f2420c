package image

import (
	"fmt"
	"slices"
	"testing"

	"loomwork/api"
)

// numberBytes are numbers with their bytes.
func numberBytes() map[int64]string {
	return map[int64]string{
		0: "0", 1: "2", -1: "1", 2: "4", -2: "3", 3: "6", 100: "200 1",
		63: "126", -64: "127", 64: "128 1", -65: "129 1", 65: "130 1", -66: "131 1",
		127: "254 1", -128: "255 1", 128: "128 2", -129: "129 2",
		8191: "254 127", -8192: "255 127", 8192: "128 128 1", -8193: "129 128 1",
		1048575: "254 255 127", -1048576: "255 255 127", 1048576: "128 128 128 1",
		1<<31 - 1: "254 255 255 255 15", -1 << 31: "255 255 255 255 15",
		1 << 31: "128 128 128 128 16", 1 << 32: "128 128 128 128 32",
		1<<62 - 1: "254 255 255 255 255 255 255 255 127", -1 << 62: "255 255 255 255 255 255 255 255 127",
		1 << 62: "128 128 128 128 128 128 128 128 128 1", -1<<62 - 1: "129 128 128 128 128 128 128 128 128 1",
		greatest - 1: "252 255 255 255 255 255 255 255 255 1", greatest: "254 255 255 255 255 255 255 255 255 1",
		least + 1: "253 255 255 255 255 255 255 255 255 1", least: "255 255 255 255 255 255 255 255 255 1",
	}
}

// P19.1, P19.2: a number in as few bytes as can be, there and back, wherever an
// instruction may have any.
func TestNumbers(t *testing.T) {
	for n, text := range numberBytes() {
		what, k := fmt.Sprint("the number ", n), int(n)
		wantSame(t, what, saidNumber(n), bytesOf(text))
		one := func(i api.Ins) api.Image { return api.Image{Cells: 1, Regs: 1, Cost: 1, Code: []api.Ins{i}} }
		front := "2 2 2 0 0 0 2 "
		wantThereAndBack(t, what+" as N", one(api.Ins{Op: api.INum, N: n}), front+"2 0 0 0 0 "+text)
		wantThereAndBack(t, what+" as K", one(api.Ins{Op: api.INum, K: k, N: 5}), front+"2 "+text+" 0 0 0 10")
		wantThereAndBack(t, what+" as A", one(api.Ins{Op: api.INum, A: k, N: 5}), front+"2 0 0 "+text+" 0 10")
		wantThereAndBack(t, what+" as B", one(api.Ins{Op: api.INum, B: k, N: 5}), front+"2 0 0 0 "+text+" 10")
		wantThereAndBack(t, what+" as N of an ISel", one(api.Ins{Op: api.ISel, N: n}), front+"16 0 0 0 0 "+text)
		loop := api.Image{Cells: 1, Regs: 1, Cost: 2, Code: []api.Ins{{Op: api.ILoop, N: 1}, {Op: api.IEnd, R: k, N: n}}}
		wantThereAndBack(t, what+" as R of an IEnd", loop, "2 2 4 0 0 0 4 20 0 0 0 0 2 22 0 "+text+" 0 0 "+text)
	}
}

// P19.1, P19.2: each byte of a number that could be another one is looked at.
func TestAllSmallNumbers(t *testing.T) {
	for n := int64(-70000); n <= 70000; n++ {
		b := withNumbers(nil, int(n))
		if !slices.Equal(b, saidNumber(n)) {
			t.Fatalf("the number %d: bytes %v, want %v", n, b, saidNumber(n))
		}
		if got := (&reader{bytes: b}).number(); got != n {
			t.Fatalf("the bytes %v: number %d, want %d", b, got, n)
		}
	}
}

// P19.1, P19.2: what a list's number is: from 63 to 64 cells a byte more.
func TestCounts(t *testing.T) {
	for _, count := range []int{0, 1, 2, 62, 63, 64, 65, 127, 128, 129, 5999, 6000} {
		n, cells := int64(count), plain(slices.Repeat([]int{4}, count))
		text, all := plain(saidNumber(n)), cells[1:len(cells)-1]
		text = text[1 : len(text)-1]
		list := slices.Repeat([]int{2}, count)
		m := api.Image{Cells: 3, Regs: 1}
		m.Put = list
		wantThereAndBack(t, fmt.Sprint(count, " Put"), m, "6 2 0 "+text+" "+all+" 0 0 0")
		m.Put, m.Bools = nil, list
		wantThereAndBack(t, fmt.Sprint(count, " Bools"), m, "6 2 0 0 "+text+" "+all+" 0 0")
		m.Bools, m.Get = nil, list
		wantThereAndBack(t, fmt.Sprint(count, " Get"), m, "6 2 0 0 0 "+text+" "+all+" 0")
		m = api.Image{Cells: 3, Regs: 1, Cost: count, Code: slices.Repeat([]api.Ins{{Op: api.INum, N: 5}}, count)}
		ins := plain(slices.Repeat([]string{"2 0 0 0 0 10"}, count))
		wantThereAndBack(t, fmt.Sprint(count, " instructions"), m, "6 2 "+text+" 0 0 0 "+text+" "+ins[1:len(ins)-1])
	}
}

// P19.2: the last byte of several that is 0: the number had been over ahead of it.
func TestNeedlessByte(t *testing.T) {
	for more := 1; more < 10; more++ {
		for _, goesOn := range []byte{128, 129, 200, 255} {
			b := append(bytesOf("2 2"), slices.Repeat([]byte{goesOn}, more)...)
			at := 3 + len(b)
			wantBar(t, "a last byte of 0", around(append(b, 0)), api.ErrNumber, at)
			wantBar(t, "a last byte of 0, and more", around(append(b, 0, 0, 0, 0, 0, 0)), api.ErrNumber, at)
			wantBar(t, "a last byte of 1", around(append(b, 1)), api.ErrShort, at+1)
		}
	}
	wantFault(t, "0 0 0 0 0 0 0 ! 18 10") // a byte that is all of the number is right
	wantFault(t, "128 0 0 0 0 0 0 0 ! 2 4")
	wantFault(t, "128 128 0 0 0 0 0 0 0 ! 2 5")
	wantFault(t, "128 0 128 0 ! 2 4")
	wantFault(t, "2 128 0 ! 2 5")
	wantFault(t, "2 2 128 0 ! 2 6")
	wantFault(t, "2 2 0 128 0 ! 2 7")
	wantFault(t, "2 2 0 2 128 0 ! 2 8")
	wantFault(t, "2 2 0 2 0 128 0 ! 2 9")
	wantFault(t, "2 2 0 2 0 2 128 0 ! 2 10")
	wantFault(t, "2 2 0 0 0 2 128 0 ! 2 10")
	wantFault(t, "2 2 0 0 0 128 0 ! 2 9")
	wantFault(t, "2 2 2 0 0 0 128 0 ! 2 10")
	wantFault(t, "2 2 2 0 0 0 2 128 0 0 0 0 0 ! 2 11")
	wantFault(t, "2 2 2 0 0 0 2 2 128 0 0 0 0 ! 2 12")
	wantFault(t, "2 2 2 0 0 0 2 2 0 128 0 0 0 ! 2 13")
	wantFault(t, "2 2 2 0 0 0 2 2 0 0 128 0 0 ! 2 14")
	wantFault(t, "2 2 2 0 0 0 2 2 0 0 0 128 0 ! 2 15")
	wantFault(t, "2 2 2 0 0 0 2 2 0 0 0 0 128 0 ! 2 16")
}

// P19.2: the tenth byte of a number has but one bit left, and goes on no further.
func TestTenthByte(t *testing.T) {
	for _, nine := range []string{"128 128 128 128 128 128 128 128 128 ", "255 255 255 255 255 255 255 255 255 ", "129 130 131 132 133 134 135 136 137 "} {
		for tenth := range 256 {
			b := append(bytesOf("2 2 2 0 0 0 2 2 0 0 0 0 "+nine), byte(tenth))
			for _, behind := range []string{"", "0", "1", "1 1", "128 128"} {
				at := 3 + len(b) - 1
				what := fmt.Sprint("the tenth byte ", tenth)
				all := around(append(slices.Clone(b), bytesOf(behind)...))
				switch {
				case tenth != 1:
					wantBar(t, what, all, api.ErrNumber, at)
				case behind == "":
					m := imageOf(1, ">", "num 0 0")
					m.Code[0].N = saidMeant(b[12:])
					wantDecoded(t, what, all, m)
				default:
					wantBar(t, what, all, api.ErrForm, at+1)
				}
			}
		}
	}
	wantFault(t, "255 255 255 255 255 255 255 255 255 2 ! 2 12")
	wantFault(t, "255 255 255 255 255 255 255 255 255 129 ! 2 12")
	wantFault(t, "255 255 255 255 255 255 255 255 255 129 0 ! 2 12")
	wantFault(t, "255 255 255 255 255 255 255 255 255 128 1 ! 2 12")
	wantFault(t, "255 255 255 255 255 255 255 255 255 1 ! 5 13")
	wantFault(t, "255 255 255 255 255 255 255 255 255 ! 5 12")
	wantFault(t, "255 255 255 255 255 255 255 255 1 ! 5 12")
	wantFault(t, "255 255 255 255 255 255 255 255 0 ! 2 11")
}

// P19.2: a number that is not over where the sum begins, be the sum's bytes such as would
// end it.
func TestCutOff(t *testing.T) {
	for more := 1; more < 10; more++ {
		for _, goesOn := range []byte{128, 129, 255} {
			rest := slices.Repeat([]byte{goesOn}, more)
			for _, ahead := range []string{"", "2", "2 2", "2 2 2", "2 2 2 20 0 0 0 0 0 0 0 0 0", "2 2 2 0 0", "2 2 2 0 0 0"} {
				b := append(bytesOf(ahead), rest...)
				wantBar(t, "cut off", around(b), api.ErrShort, 3+len(b))
			}
		}
	}
	wantFault(t, "! 5 3")
	wantFault(t, "2 ! 5 4")
	wantFault(t, "2 2 ! 5 5")
	wantFault(t, "2 2 2 ! 5 6")
	wantFault(t, "2 2 2 0 ! 5 7")
	wantFault(t, "2 2 2 0 0 ! 5 8")
	wantFault(t, "2 2 2 0 0 0 ! 5 9")
	wantFault(t, "2 2 2 2 128 ! 5 8")
	wantFault(t, "2 2 2 4 0 128 ! 5 9")
	wantFault(t, "2 2 2 4 128 1 ! 5 9")
	wantFault(t, "2 2 2 0 4 128 1 ! 5 10")
	wantFault(t, "2 2 2 0 0 4 128 1 ! 5 11")
	wantFault(t, "2 2 2 2 0 ! 5 8")
	wantFault(t, "2 2 2 0 2 0 ! 5 9")
	wantFault(t, "2 2 2 0 0 2 0 ! 5 10")
	wantFault(t, "2 2 2 0 0 0 2 2 0 0 0 0 128 ! 5 16")
	wantFault(t, "2 2 2 0 0 0 2 128 1 0 0 0 0 ! 5 16")
	wantFault(t, "2 2 2 0 0 0 2 128 128 128 128 128 1 ! 5 16")
	wantFault(t, "2 2 4 0 0 0 4 2 0 0 0 0 10 2 0 0 0 128 1 ! 5 22")
}
