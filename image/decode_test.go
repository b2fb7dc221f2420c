package image

import (
	"fmt"
	"slices"
	"testing"

	"loomwork/api"
)

// smallest are the bytes of an image of no code.
func smallest() []byte { return around(bytesOf("2 2 0 0 0 0 0")) }

// P19.2: ErrShort at how many there are: fewer than seven, whatever they are.
func TestFewerThanSeven(t *testing.T) {
	wantBar(t, "nil", nil, api.ErrShort, 0)
	wantBar(t, "no bytes", []byte{}, api.ErrShort, 0)
	for count := range 7 {
		wantBar(t, "zeros", make([]byte, count), api.ErrShort, count)
		wantBar(t, "the front of an image", smallest()[:count], api.ErrShort, count)
		wantBar(t, "others", slices.Repeat([]byte{255}, count), api.ErrShort, count)
	}
	wantBar(t, "two bytes and their sum", summed([]byte{76, 87}), api.ErrShort, 6)
	wantBar(t, "a sum alone", summed(nil), api.ErrShort, 4)
}

// P19.2: seven bytes are enough to look at.
func TestSeven(t *testing.T) {
	wantBar(t, "zeros", make([]byte, 7), api.ErrForm, 0)
	wantBar(t, "the front of an image", smallest()[:7], api.ErrSum, 3)
	wantBar(t, "three bytes and their sum", around(nil), api.ErrShort, 3)
	wantBar(t, "four bytes and their sum", around([]byte{2}), api.ErrShort, 4)
}

// P19.2: ErrForm at 0: the first three are others.
func TestFirstThree(t *testing.T) {
	for place := range 3 {
		for other := range 256 {
			b := smallest()
			if b[place] == byte(other) {
				continue
			}
			b[place] = byte(other)
			what := fmt.Sprint("the byte ", place, " being ", other)
			wantBar(t, what, b, api.ErrForm, 0)
			wantBar(t, what+" with a right sum", summed(b[:len(b)-4]), api.ErrForm, 0)
			wantBar(t, what+" alone", summed(b[:3]), api.ErrForm, 0)
			wantBar(t, what+" ahead of zeros", append(b[:3], 0, 0, 0, 0), api.ErrForm, 0)
		}
	}
	for _, other := range []string{"87 76 1", "76 1 87", "1 87 76", "0 0 0", "76 87 0", "76 87 2", "76 76 1", "108 119 1", "2 76 87 1"} {
		b := append(bytesOf(other), bytesOf("2 2 0 0 0 0 0")...)
		wantBar(t, other, summed(b), api.ErrForm, 0)
	}
}

// P19.2: ErrSum where the last four begin: they are not the sum.
func TestLastFour(t *testing.T) {
	for _, between := range []string{"2 2 0 0 0 0 0", "", "2", "255 255 255 255 255 255 255 255 255 255 2", "2 2 0 1", "2 2 0 0 0 0 0 0"} {
		right := around(bytesOf(between))
		end := len(right) - 4
		for place := end; place < len(right); place++ {
			for other := range 256 {
				b := slices.Clone(right)
				if b[place] = byte(other); b[place] != right[place] {
					wantBar(t, fmt.Sprint(between, ": the byte ", place, " being ", other), b, api.ErrSum, end)
				}
			}
		}
		for what, sum := range map[string][]byte{
			"turned about": {right[end+3], right[end+2], right[end+1], right[end]},
			"zeros":        {0, 0, 0, 0},
			"all bits":     {255, 255, 255, 255},
			"bits turned":  {^right[end], ^right[end+1], ^right[end+2], ^right[end+3]},
			"in halves":    {right[end+2], right[end+3], right[end], right[end+1]},
		} {
			wantBar(t, between+": the sum "+what, append(slices.Clone(right[:end]), sum...), api.ErrSum, end)
		}
		wantBar(t, between+": a byte behind", append(slices.Clone(right), 0), api.ErrSum, end+1)
		wantBar(t, between+": a sum of the numbers alone", append(slices.Clone(right[:end]), summed(right[3:end])[end-3:]...), api.ErrSum, end)
	}
}

// P19.2: ErrMany at a count's first byte: it is below 0.
func TestCountsBelow(t *testing.T) {
	for _, n := range []int64{-1, -2, -64, -65, -1 << 32, least + 1, least} {
		count := saidNumber(n)
		for _, ahead := range []string{"2 2 0", "2 2 0 0", "2 2 0 4 0 0", "2 2 0 0 0", "2 2 0 0 4 0 0", "2 2 0 0 0 0", "2 2 0 4 0 0 2 0 4 0 0", "2 2 0 200 1 " + zeros(100)} {
			b := bytesOf(ahead)
			for _, behind := range []string{"", "0", "0 0 0 0 0 0 0 0 0 0 0 0 0 0 0", "128 0"} {
				all := slices.Concat(b, count, bytesOf(behind))
				wantBar(t, fmt.Sprint(ahead, ": a count of ", n), around(all), api.ErrMany, 3+len(b))
			}
		}
	}
}

// zeros are so many bytes of 0.
func zeros(count int) string {
	text := plain(make([]byte, count))
	return text[1 : len(text)-1]
}

// many are numbers that are far more than there are bytes; some times six they are few
// again, if it wraps round.
func many() []int64 {
	return []int64{1000, 6000, 120000, 200000, 1<<31 - 1, 1 << 31, 1 << 32, 1<<32 + 1, 1 << 60, 1 << 61, 1<<62 - 1, 1 << 62,
		greatest/6 - 1, greatest / 6, greatest/6 + 1, 3074457345618258603, 6148914691236517205, greatest - 1, greatest}
}

// P19.2: ErrMany at a count's first byte: of the bytes that are left behind it there are
// fewer than it asks for, one for each cell.
func TestCountsOfCells(t *testing.T) {
	for _, ahead := range []string{"2 2 0", "2 2 0 0", "2 2 0 0 0", "2 2 0 4 0 0 6 0 0 0"} {
		front := bytesOf(ahead)
		for _, left := range []int{0, 1, 2, 10, 62, 63, 64, 65, 200} {
			for _, n := range append(many(), int64(left+1), int64(left+2), int64(2*left+1)) {
				if n > int64(left) {
					b := slices.Concat(front, saidNumber(n), make([]byte, left))
					wantBar(t, fmt.Sprint(ahead, ": ", n, " cells, ", left, " bytes left"), around(b), api.ErrMany, 3+len(front))
				}
			}
			b := slices.Concat(front, saidNumber(int64(left)), make([]byte, left))
			wantBar(t, fmt.Sprint(ahead, ": as many as are left, ", left), around(b), api.ErrShort, 3+len(b))
		}
	}
	wantFault(t, "2 2 0 2 ! 7 6")
	wantFault(t, "2 2 0 4 0 ! 7 6")
	wantFault(t, "2 2 0 4 128 1 ! 5 9")
	wantFault(t, "2 2 0 6 128 1 ! 7 6")
	wantFault(t, "2 2 0 0 2 ! 7 7")
	wantFault(t, "2 2 0 0 0 2 ! 7 8")
	wantFault(t, "2 2 0 128 1 ! 7 6")
	wantFault(t, "2 2 0 200 1 "+zeros(99)+" ! 7 6")
	wantFault(t, "2 2 0 200 1 "+zeros(100)+" ! 5 108")
}

// P19.2: likewise six for each instruction.
func TestCountsOfInstructions(t *testing.T) {
	for _, ahead := range []string{"2 2 0 0 0 0", "2 2 0 4 0 0 6 0 0 0 2 0"} {
		front := bytesOf(ahead)
		for _, count := range []int{1, 2, 3, 10, 11, 63, 64, 65, 100} {
			for _, less := range []int{1, 2, 3, 4, 5, 6} {
				b := slices.Concat(front, saidNumber(int64(count)), make([]byte, 6*count-less))
				wantBar(t, fmt.Sprint(ahead, ": ", count, " instructions, ", less, " too few"), around(b), api.ErrMany, 3+len(front))
			}
			b := slices.Concat(front, saidNumber(int64(count)), make([]byte, 6*count))
			wantBar(t, fmt.Sprint(ahead, ": ", count, " instructions of 0"), around(b), api.ErrCode, 3+len(b))
		}
		for _, n := range many() {
			b := slices.Concat(front, saidNumber(n), make([]byte, 5*100))
			wantBar(t, fmt.Sprint(ahead, ": ", n, " instructions"), around(b), api.ErrMany, 3+len(front))
		}
	}
	wantFault(t, "2 2 0 0 0 0 2 ! 7 9")
	wantFault(t, "2 2 2 0 0 0 2 2 0 0 0 0 ! 7 9")
	wantFault(t, "2 2 2 0 0 0 4 2 0 0 0 0 0 2 0 0 0 0 ! 7 9")
	wantDecoded(t, "one", around(bytesOf("2 2 2 0 0 0 2 2 0 0 0 0 0")), imageOf(1, ">", "num 0 0"))
	wantDecoded(t, "two", around(bytesOf("2 2 4 0 0 0 4 2 0 0 0 0 0 2 0 0 0 0 2")), imageOf(1, ">", "num 0 0; num 0 1"))
}

// P19.2: ErrForm at the first byte that is left, behind the last instruction.
func TestLeftBehind(t *testing.T) {
	for _, between := range []string{"2 2 0 0 0 0 0", "2 2 2 0 0 0 2 2 0 0 0 0 0", "200 1 6 2 2 4 0 0 2 2 0 0 0 0 1", "0 0 0 0 0 0 0", "2 2 0 0 0 0 2 0 0 0 0 0 0"} {
		for _, left := range []string{"0", "1", "128", "255", "0 0", "128 0", "7 8 9", zeros(6), zeros(1000), "255 255 255 255 255 255 255 255 255 255"} {
			b := bytesOf(between)
			wantBar(t, between+" and then "+left, around(append(b, bytesOf(left)...)), api.ErrForm, 3+len(b))
		}
	}
	whole := smallest()
	wantBar(t, "an image behind an image", summed(append(whole, whole...)), api.ErrForm, 10)
}

// P19.2: where several things are so, the first is told that the chapter names; going on
// from the front what comes first.
func TestWhichComesFirst(t *testing.T) {
	wantBar(t, "short, and others", []byte{1, 2, 3, 4, 5, 6}, api.ErrShort, 6)
	wantBar(t, "others, and no sum", []byte{75, 87, 1, 2, 2, 0, 0, 0, 0, 0, 1, 1, 1, 1}, api.ErrForm, 0)
	wantBar(t, "no sum, and a number that is not over", append(bytesOf("76 87 1 128"), 1, 2, 3, 4), api.ErrSum, 4)
	wantBar(t, "no sum, and a needless byte", append(bytesOf("76 87 1 128 0"), 1, 2, 3, 4), api.ErrSum, 5)
	wantBar(t, "no sum, and a count below 0", append(bytesOf("76 87 1 2 2 0 1"), 1, 2, 3, 4), api.ErrSum, 7)
	wantBar(t, "no sum, and a byte that is left", append(bytesOf("76 87 1 2 2 0 0 0 0 0 0"), 1, 2, 3, 4), api.ErrSum, 11)
	wantBar(t, "no sum, and an image that may not be run", append(bytesOf("76 87 1 0 0 0 0 0 0 0"), 1, 2, 3, 4), api.ErrSum, 10)
	wantFault(t, "128 0 2 0 1 ! 2 4")                      // a needless byte, and then a count below 0
	wantFault(t, "2 2 0 1 128 0 ! 7 6")                    // the other way round
	wantFault(t, "2 2 0 129 0 ! 2 7")                      // a count that is below 0, with a needless byte
	wantFault(t, "2 2 0 129 ! 5 7")                        // and one that is not over
	wantFault(t, "2 2 0 200 ! 5 7")                        // likewise of too many
	wantFault(t, "2 2 0 200 0 ! 2 7")                      // likewise
	wantFault(t, "2 2 0 200 1 128 0 ! 7 6")                // too many, and then a needless byte
	wantFault(t, "2 2 0 4 128 0 1 ! 2 8")                  // a needless byte in a list, and then a count below 0
	wantFault(t, "2 2 0 4 0 0 1 128 ! 7 9")                // a count below 0, and then what is not over
	wantFault(t, "2 2 0 2 0 8 0 128 0 ! 7 8")              // too many Bools, and then a needless byte
	wantFault(t, "0 0 0 0 0 0 0 0 ! 4 10")                 // a byte that is left of an image that may not be run
	wantFault(t, "0 0 0 0 0 0 2 2 0 0 0 0 ! 7 9")          // too many instructions of it
	wantFault(t, "0 0 0 0 0 0 2 2 0 0 0 0 128 ! 5 16")     // a number of it that is not over
	wantFault(t, "0 0 0 0 0 0 2 2 128 0 0 0 0 128 ! 2 12") // a needless byte of it, and then that
	wantFault(t, "0 0 0 0 0 0 2 24 0 0 0 0 0 ! 18 16")
	wantFault(t, "1 1 1 0 0 0 0 ! 18 10")
	wantFault(t, "2 2 2 0 0 0 0 ! 18 10")
}

// P19.2: ErrCode, too, where the lists are longer than an image's may be.
func TestTooLong(t *testing.T) {
	for what, b := range map[string][]byte{
		"Put":   slices.Concat(bytesOf("2 2 0"), saidNumber(6001), make([]byte, 6001), bytesOf("0 0 0")),
		"Bools": slices.Concat(bytesOf("2 2 0 0"), saidNumber(6001), make([]byte, 6001), bytesOf("0 0")),
		"Get":   slices.Concat(bytesOf("2 2 0 0 0"), saidNumber(120001), make([]byte, 120001), bytesOf("0")),
		"code":  slices.Concat(bytesOf("2 2"), saidNumber(200001), bytesOf("0 0 0"), saidNumber(200001), slices.Repeat(bytesOf("2 0 0 0 0 0"), 200001)),
		"all":   slices.Concat(bytesOf("2 2 0"), saidNumber(1<<20), make([]byte, 1<<20), saidNumber(1<<20), make([]byte, 1<<20), saidNumber(1<<20), make([]byte, 1<<20), bytesOf("0")),
	} {
		wantBar(t, what, around(b), api.ErrCode, 3+len(b))
	}
}

// The chapter's examples.
func TestExamples(t *testing.T) {
	wantSum(t, "the nine bytes", []byte("123456789"), 0xCBF43926)
	wantSame(t, "numbers", [][]byte{withNumbers(nil, 3), withNumbers(nil, -1), withNumbers(nil, 100)}, [][]byte{{6}, {1}, {200, 1}})
	m := api.Image{Cells: 100, Regs: 3, Cost: 1, Code: []api.Ins{{Op: api.INum, N: -1}}}
	wantThereAndBack(t, "3, -1 and 100", m, "200 1 6 2 0 0 0 2 2 0 0 0 0 1")
}
