package image

import (
	"fmt"
	"slices"
	"testing"

	"loomwork/api"
	"loomwork/code"
)

// P1, P19.2: thrown bytes, with and without what makes them an image's.
func TestThrownBytes(t *testing.T) {
	d, codes := dice(23), map[int]int{}
	for i := range 60000 {
		b := thrownBytes(&d, 40)
		for at := range b {
			if d.below(3) > 0 {
				b[at] = byte(d.below(5)) // else few would be numbers that fit
			}
		}
		if i%8 > 0 {
			b = around(b)
		} else if i%16 > 0 {
			b = summed(b)
		}
		codes[holdAgainstSaid(t, fmt.Sprint("thrown ", i), b)]++
		if t.Failed() {
			t.Fatalf("%v", b)
		}
	}
	for _, k := range []int{api.ErrShort, api.ErrForm, api.ErrNumber, api.ErrMany} {
		if codes[k] < 500 {
			t.Errorf("the code %d was told %d times alone", k, codes[k])
		}
	}
}

// What follows: thrown bytes that Decode takes: an image of no code, or of one
// instruction, with some of all small numbers.
func TestBytesTaken(t *testing.T) {
	taken := 0
	for _, put := range []string{"0", "2 0", "2 2", "4 0 2", "1", "2 1"} {
		for op := range 26 {
			for n := range 6 {
				for _, more := range []string{"0 0 0", "0 2 4", "6 0 2", "27 0 0", "2 0 4"} {
					text := fmt.Sprint("4 4 2 ", put, " 0 0 2 ", op, " ", more, " ", n, " ", n)
					if holdAgainstSaid(t, text, around(bytesOf(text))) == 0 {
						taken++
					}
				}
			}
		}
	}
	if taken < 300 {
		t.Errorf("%d were taken", taken)
	}
}

// anyNumber is a number of whatever kind.
func anyNumber(d *dice) int {
	if d.below(4) > 0 {
		return d.below(16)
	}
	return int(pick(d, append(someNumbers(), 39, 40, 41, 300, 301, 5999, 6000, 6001)))
}

func anyInts(d *dice) []int {
	var list []int
	for range d.below(4) {
		list = append(list, anyNumber(d))
	}
	return list
}

// anything is an image of whatever numbers, with lists that may be nil.
func anything(d *dice) api.Image {
	m := api.Image{Cells: anyNumber(d), Regs: anyNumber(d), Cost: anyNumber(d), Put: anyInts(d), Bools: anyInts(d), Get: anyInts(d)}
	for range d.below(5) {
		m.Code = append(m.Code, api.Ins{Op: anyNumber(d), K: anyNumber(d), R: anyNumber(d), A: anyNumber(d), B: anyNumber(d), N: int64(anyNumber(d))})
	}
	return m
}

// slip puts some number at one place of an image.
func slip(d *dice, m *api.Image) {
	places := []*int{&m.Cells, &m.Regs, &m.Cost}
	for _, list := range [][]int{m.Put, m.Bools, m.Get} {
		for i := range list {
			places = append(places, &list[i])
		}
	}
	for at := range m.Code {
		i := &m.Code[at]
		places = append(places, &i.Op, &i.K, &i.R, &i.A, &i.B)
	}
	*pick(d, places) = anyNumber(d)
	if len(m.Code) > 0 && d.below(4) == 0 {
		pick(d, []*api.Ins{&m.Code[0], &m.Code[len(m.Code)-1]}).N = int64(anyNumber(d))
	}
	if d.below(2) == 0 {
		m.Cost = code.Cost(m.Code)
	}
}

// P1, P19: whatever image is handed in, there is code.Check's fault, or its bytes; and
// what would be its bytes is it, or has ErrCode.
func TestAnything(t *testing.T) {
	d, codes := dice(7), map[int]int{}
	for i := range 60000 {
		m := anything(&d)
		if i%4 > 0 {
			m = copied(thrown(i/4, 8), 0)
			slip(&d, &m)
		}
		kept, between := plain(m), saidBetween(m)
		fault := code.Check(m)
		codes[fault.Code]++
		if fault.Code != 0 {
			wantRefused(t, fmt.Sprint("thrown ", i), m, fault.Code, fault.At)
			wantBar(t, fmt.Sprint("thrown ", i), around(between), api.ErrCode, 3+len(between))
		} else {
			wantEncoded(t, fmt.Sprint("thrown ", i), m, around(between))
			wantDecoded(t, fmt.Sprint("thrown ", i), around(between), m)
		}
		if plain(m) != kept || t.Failed() {
			t.Fatalf("thrown %d: %v, it was %v", i, m, kept)
		}
	}
	for _, k := range []int{0, api.ErrSize, api.ErrRange, api.ErrForm, api.ErrCode} {
		if codes[k] < 1500 {
			t.Errorf("the code %d was told %d times alone", k, codes[k])
		}
	}
}

// P1: every call ends: bytes that are many, and lists that are long.
func TestEndless(t *testing.T) {
	long := make([]byte, 1<<24)
	wantBar(t, "zeros", long, api.ErrForm, 0)
	copy(long, []byte{76, 87, 1})
	wantBar(t, "zeros behind the front", long, api.ErrSum, 1<<24-4)
	wantBar(t, "zeros with a sum", summed(long), api.ErrForm, 10)
	for _, each := range []byte{128, 255} {
		wantBar(t, "a number without an end", around(slices.Repeat([]byte{each}, 1<<24)), api.ErrNumber, 12)
	}
	cells := slices.Concat(bytesOf("2 2 0"), saidNumber(1<<23), make([]byte, 1<<23), bytesOf("1"))
	wantBar(t, "many cells, and then a count below 0", around(cells), api.ErrMany, 3+len(cells)-1)
	l := slices.Concat(bytesOf("2 2 0 0 0 0"), saidNumber(1<<21), make([]byte, 6<<21), bytesOf("0"))
	wantBar(t, "many instructions, and then a byte", around(l), api.ErrForm, 3+len(l)-1)
	wantRefused(t, "many Put", api.Image{Cells: 1, Regs: 1, Put: make([]int, 1<<22)}, api.ErrMany, -1)
	wantRefused(t, "many instructions", api.Image{Cells: 1, Regs: 1, Code: make([]api.Ins, 1<<20)}, api.ErrMany, -1)
}

// A reader's own panics are caught alone: another one is the program's error, and is told.
func TestOtherPanics(t *testing.T) {
	defer func() {
		if why := recover(); why == nil {
			t.Error("there was no panic")
		}
	}()
	_, fault := readImage(nil) // it is called with an image's first three bytes, and more
	t.Errorf("fault %v", fault)
}
