package vm

import (
	"fmt"
	"slices"
	"testing"

	"loomwork/api"
)

// farPlaces are numbers that are no place of an array of so many cells.
func farPlaces(b int64) []int64 {
	return []int64{-1, b, b + 1, -2, -b, 2 * b, 5999, 6000, 6001, 1 << 31, 1<<32 + 1, 1 << 32, -1 << 32, 1<<62 + 1, greatest, greatest - 1, greatest - b, least, least + 1, least + b}
}

// P18.1: the cell N + A's number, from 0 to B less 1; else ErrRange.
func TestPlaces(t *testing.T) {
	const cells = 6000
	for _, b := range []int64{1, 2, 3, 300, 5000, 5998} {
		for _, n := range []int64{2, 1, cells - b} {
			get := image(cells, "0 1 > 0 1", fmt.Sprint("load 0 0; num 1 -7; loadx 1 0 ", n, " ", b, "; store 1 1"))
			put := image(cells, "0 1 > 0", fmt.Sprint("load 0 0; load 1 1; storex 1 0 ", n, " ", b))
			for _, place := range []int64{0, 1, b / 2, b - 1} {
				if place >= b {
					continue
				}
				want := make([]int64, cells)
				want[0], want[1], want[n+place] = place, 78, 78
				v := begun(t, "IStoreX", put)
				wantTold(t, fmt.Sprint("IStoreX at ", place, " of ", b), v, 3, []int64{place, 78}, want[:1])
				wantBeen(t, fmt.Sprint("IStoreX at ", place, " of ", b), v, 3, want)

				v = begun(t, "ILoadX", get)
				for i := range v.cells {
					v.cells[i] = int64(i) * 3
				}
				told := (n + place) * 3
				if n+place == 1 {
					told = 78 // what was given
				}
				wantTold(t, fmt.Sprint("ILoadX at ", place, " of ", b), v, 4, []int64{place, 78}, []int64{place, told})
			}
			for _, place := range farPlaces(b) {
				if place >= 0 && place < b {
					continue
				}
				wantNot(t, fmt.Sprint("ILoadX at ", place, " of ", b), begun(t, "ILoadX", get), []int64{place, 78}, api.ErrRange, 2)
				wantNot(t, fmt.Sprint("IStoreX at ", place, " of ", b), begun(t, "IStoreX", put), []int64{place, 78}, api.ErrRange, 2)
			}
		}
	}
}

// P18.1: a place is reckoned from N on: other cells, though they are there, are out of
// reach.
func TestPlacesAmongOthers(t *testing.T) {
	get := image(7, "0 1 2 3 4 5 6 > 6", "load 0 0; loadx 1 0 2 3; store 1 6")
	v := wantRows(t, "ILoadX", get, "0 1 20 30 40 5 6 > 20", "1 1 20 30 40 5 6 > 30", "2 1 20 30 40 5 6 > 40",
		"3 1 20 30 40 5 6 ! 16 1", "4 1 20 30 40 5 6 ! 16 1", "-1 1 20 30 40 5 6 ! 16 1", "-2 1 20 30 40 5 6 ! 16 1", "- 1 20 30 40 5 6 ! 16 1", "+ 1 20 30 40 5 6 ! 16 1")
	wantBeen(t, "ILoadX", v, 9, numbers("2 1 20 30 40 5 40"))
	put := image(7, "0 1 2 3 4 5 6 > 0 1 2 3 4 5 6", "load 0 0; load 1 6; storex 1 0 2 3")
	wantRows(t, "IStoreX", put, "0 1 2 3 4 5 6 > 0 1 6 3 4 5 6", "1 1 2 3 4 5 6 > 1 1 2 6 4 5 6", "2 1 2 3 4 5 6 > 2 1 2 3 6 5 6",
		"3 1 2 3 4 5 6 ! 16 2", "4 1 2 3 4 5 6 ! 16 2", "-1 1 2 3 4 5 6 ! 16 2", "-2 1 2 3 4 5 6 ! 16 2", "- 1 2 3 4 5 6 ! 16 2", "+ 1 2 3 4 5 6 ! 16 2")
	wantRows(t, "of one cell", image(1, "0 > 0", "load 0 0; loadx 1 0 0 1; store 1 0"), "0 > 0", "1 ! 16 1", "-1 ! 16 1")
	wantRows(t, "of all cells", image(3, "0 > 0", "load 0 0; loadx 1 0 0 3; store 1 0"), "0 > 0", "1 > 0", "2 > 0", "3 ! 16 1")
	wantRows(t, "of the last cell", image(3, "0 > 0", "load 0 0; loadx 1 0 2 1; store 1 0"), "0 > 0", "1 ! 16 1", "2 ! 16 1", "-2 ! 16 1")
}

// P18.1: a number that wrapped round is a place as any other.
func TestPlacesThatWrap(t *testing.T) {
	m := image(4, "0 1 > 3", "load 0 0; load 1 1; add 0 0 1; loadx 2 0 0 2; store 2 3")
	wantRows(t, "wraps round", m, "- - > -", "- + ! 16 3", "+ - ! 16 3", "+ + ! 16 3", "+ 1 ! 16 3", "- -1 ! 16 3", "-1 1 > -1", "2 -1 > -1")
}

// P18.1: with ErrRange the row has not been, wherever in the code it is: cells and Steps
// are as ahead of it, though instructions ahead of it wrote cells.
func TestWhereRangeIs(t *testing.T) {
	wrong := map[string]string{"ILoadX": "loadx 1 39 0 4", "IStoreX": "storex 1 39 0 4"}
	for what, text := range wrong {
		for ahead := range 8 {
			for behind := range 4 {
				m := image(6, "0 5 > 1", "num 0 3")
				m = withCode(m, slices.Concat(slices.Repeat(instructions("store 0 1"), ahead), instructions("loadx 1 0 0 1; load 39 5"),
					slices.Repeat(instructions("store 0 2"), ahead), instructions(text), slices.Repeat(instructions("storex 0 0 3 1; store 39 4"), behind))...)
				at := 2*ahead + 2
				v := wantRows(t, fmt.Sprint(what, " at ", at), m, "4 0 > 0", fmt.Sprint("9 4 ! 16 ", at), fmt.Sprint("9 -1 ! 16 ", at), "7 3 > 0", fmt.Sprint("5 - ! 16 ", at))
				wantSame(t, "steps", v.Steps(), 2*m.Cost)
			}
		}
	}
}

// P18.1: ErrRange at the first instruction and at the last one.
func TestRangeAtEnds(t *testing.T) {
	// At the first one all registers are 0; the place cannot be wrong.
	wantRows(t, "the first", image(2, "0 > 1", "loadx 0 0 0 1; store 0 1"), "+ > +", "- > -")
	m := image(4, "0 1 > 1", "load 0 0; loadx 1 0 1 1; store 1 2; storex 1 0 3 1")
	wantRows(t, "the first that can be", m, "0 5 > 5", "1 6 ! 16 1", "0 7 > 7")
	m = image(4, "0 > 1 2", "load 0 0; num 1 8; store 1 1; store 1 2; storex 1 0 3 1")
	v := wantRows(t, "the last", m, "1 ! 16 4", "-1 ! 16 4")
	wantBeen(t, "the last", v, 0, numbers("0 0 0 0"))
	wantRow(t, "the last", v, "0 > 8 8")
	wantRow(t, "the last", v, "1 ! 16 4")
	wantBeen(t, "the last", v, 5, numbers("0 8 8 8"))
	m = image(4, "0 > 1", "load 0 0; loadx 1 0 0 4")
	wantRows(t, "the last, an ILoadX", m, "4 ! 16 1", "3 > 0", "+ ! 16 1")
	m = image(4, "0 > 1", "load 0 0; loadx 1 0 0 3; loadx 1 0 0 2; loadx 1 0 0 1")
	wantRows(t, "the first of several", m, "0 > 0", "1 ! 16 3", "2 ! 16 2", "3 ! 16 1", "-1 ! 16 1")
}

// P18.1: ErrRange at the instruction's number, in whatever turn of a loop.
func TestRangeInLoops(t *testing.T) {
	m := image(9, "0 1 > 2 3 4 5 6 7 8", "load 1 0; load 2 1; loop 0 7; storex 2 0 2 7; add 3 0 1; loadx 4 3 0 7; storex 2 0 2 7; end; num 5 1; store 5 2")
	v := wantRows(t, "in a turn", m, "0 5 > 1 5 5 5 5 5 5", "1 6 ! 16 5", "-1 6 ! 16 5", "6 6 ! 16 5", "7 6 ! 16 5", "- 6 ! 16 5", "+ 6 ! 16 5")
	wantBeen(t, "in a turn", v, m.Cost, numbers("0 5 1 5 5 5 5 5 5"))
	wantRow(t, "in a turn", v, "0 -8 > 1 -8 -8 -8 -8 -8 -8")
	for _, b := range []int{1, 2, 3, 299, 300} {
		text := fmt.Sprint("num 1 5; store 1 0; loop 0 300; storex 0 0 1 ", b, "; end; store 0 0")
		m := image(301, "> 0", text)
		if b == 300 {
			wantRows(t, text, m, "> 299", "> 299")
			continue
		}
		wantRows(t, text, m, "! 16 3", "! 16 3")
	}
	m = image(3, "0 > 1", "loop 0 2; num 1 1; end; load 0 0; loop 3 3; store 1 2; loadx 2 0 0 3; sub 0 0 1; end; store 3 1")
	v = wantRows(t, "in the second loop", m, "1 ! 16 6", "0 ! 16 6", "3 ! 16 6", "-1 ! 16 6")
	wantBeen(t, "in the second loop", v, 0, numbers("0 0 0"))
	wantRow(t, "in the second loop", v, "2 > 2")
	m = image(3, "0 > 1", "load 0 0; num 1 1; loop 2 4; loadx 3 0 0 3; sub 0 0 1; end; store 2 1")
	wantRows(t, "in the last turn", m, "2 ! 16 3", "3 ! 16 3", "0 ! 16 3", "1 ! 16 3")
	m = image(4, "0 > 1", "load 0 0; num 1 1; loop 2 4; loadx 3 0 0 4; sub 0 0 1; end; store 2 1")
	wantRows(t, "in no turn", m, "3 > 3", "2 ! 16 3", "4 ! 16 3", "3 > 3")
}

// P18.1: the place is what the register is then, also if it was made by the loop's turns.
func TestPlacesMade(t *testing.T) {
	m := image(5, "0 > 1 2 3 4", "load 1 0; loop 0 4; move 2 0; mul 2 2 1; storex 0 2 1 4; end")
	wantRows(t, "turns times a number", m, "1 > 0 1 2 3", "0 > 3 1 2 3", "2 ! 16 4", "-1 ! 16 4", "1 > 0 1 2 3")
	m = image(3, "0 1 2 >", "load 0 0; loadx 0 0 0 3; loadx 0 0 0 3; loadx 0 0 0 3; store 0 0")
	v := wantRows(t, "places of places", m, "1 2 0 >", "2 2 2 >", "1 0 0 >", "1 3 0 ! 16 2", "2 0 1 >", "3 0 0 ! 16 1", "1 2 3 ! 16 3")
	wantBeen(t, "places of places", v, 4*5, numbers("2 0 1"))
}
