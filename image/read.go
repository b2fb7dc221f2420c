package image

import "loomwork/api"

// How few bytes things take, at a byte for each of their numbers.
const (
	cellBytes        = 1
	instructionBytes = 6
)

// givenUp is what a reader panics with when the bytes cannot be an image's.
type givenUp struct{ fault api.Fault }

// reader goes over bytes from behind the front as far as the sum.
type reader struct {
	bytes []byte
	at    int
}

func (r *reader) giveUp(k, at int) {
	panic(givenUp{api.Fault{Code: k, At: at}})
}

// readImage answers the image whose numbers stand behind the front. It catches the
// reader's own panics alone: any other would be an error of the program, not of the bytes.
func readImage(b []byte) (m api.Image, fault api.Fault) {
	defer func() {
		switch why := recover().(type) {
		case nil:
		case givenUp:
			m, fault = api.Image{}, why.fault
		default:
			panic(why)
		}
	}()
	r := &reader{bytes: b, at: len(front)}
	m = r.image()
	if r.at < len(b) {
		r.giveUp(api.ErrForm, r.at)
	}
	return m, api.Fault{}
}

func (r *reader) image() api.Image {
	var m api.Image
	r.into(&m.Cells, &m.Regs, &m.Cost)
	m.Put = r.list()
	m.Bools = r.list()
	m.Get = r.list()
	for range r.count(instructionBytes) {
		m.Code = append(m.Code, r.instruction())
	}
	return m
}

func (r *reader) list() []int {
	var list []int
	for range r.count(cellBytes) {
		list = append(list, int(r.number()))
	}
	return list
}

func (r *reader) instruction() api.Ins {
	var i api.Ins
	r.into(&i.Op, &i.K, &i.R, &i.A, &i.B)
	i.N = r.number()
	return i
}

// into reads as many numbers as there are places for them.
func (r *reader) into(places ...*int) {
	for _, place := range places {
		*place = int(r.number())
	}
}

// count reads how many things follow, of so many bytes each or more.
func (r *reader) count(bytesEach int) int {
	begin := r.at
	count := r.number()
	if left := len(r.bytes) - r.at; count < 0 || count > int64(left/bytesEach) {
		r.giveUp(api.ErrMany, begin)
	}
	return int(count)
}

func (r *reader) number() int64 {
	var n uint64
	for group := range mostGroups {
		b := r.byteOf(group)
		n |= uint64(b%goesOn) << (group * groupBits)
		if b < goesOn {
			break
		}
	}
	return unfolded(n)
}

// byteOf reads that byte of a number. The tenth one has but one bit left, and goes on no
// further; and a last one of 0 would say nothing.
func (r *reader) byteOf(group int) byte {
	if r.at == len(r.bytes) {
		r.giveUp(api.ErrShort, r.at)
	}
	b := r.bytes[r.at]
	isTooGreat := group == mostGroups-1 && b > 1
	isNeedless := group > 0 && b == 0
	if isTooGreat || isNeedless {
		r.giveUp(api.ErrNumber, r.at)
	}
	r.at++
	return b
}
