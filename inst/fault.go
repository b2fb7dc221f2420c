package inst

import "loomwork/api"

// Places of faults that are not an equation's.
const (
	placeOfProgram   = -1
	placeOfFirstNode = -2 // the others lie below it, one by one
)

// givenUp is what the unrolling gives up by, so that no function between has to
// hand a fault on.
type givenUp struct{ fault api.Fault }

func giveUp(code, at int) {
	panic(givenUp{api.Fault{Code: code, At: at}})
}

// allow gives up if there are as many as there may be.
func allow(have, most int) {
	if have >= most {
		giveUp(api.ErrMany, placeOfProgram)
	}
}
