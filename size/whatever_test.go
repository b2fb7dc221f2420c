package size

import (
	"fmt"
	"math"
	"reflect"
	"slices"
	"sort"
	"testing"

	"loomwork/api"
)

// someNames are few, so that names meet; the empty one is among them.
var someNames = []string{"", "a", "b", "ab", "n", "\xff"}

// someNumbers are small ones, edges, and what lies beyond.
var someNumbers = []int64{0, 1, -1, 2, -2, 3, 1000000, -1000000, 1000001, -1000001, math.MaxInt64, math.MinInt64}

// thrown is a size of at most that many terms; one number in rare is beyond.
func thrown(d *dice, most, rare int) api.Size {
	s := api.Size{}
	for range d.below(most + 1) {
		n := someNumbers[d.below(8)]
		if d.below(rare) == 0 {
			n = someNumbers[d.below(len(someNumbers))]
		}
		s = append(s, api.Term{N: n, Name: someNames[d.below(len(someNames))]})
	}
	return s
}

func thrownNames(d *dice) []string {
	names := []string{}
	for range d.below(7) {
		names = append(names, someNames[d.below(len(someNames))])
	}
	return names
}

func thrownSizes(d *dice) []api.Size {
	l := []api.Size{}
	for range d.below(7) {
		l = append(l, thrown(d, 3, 12))
	}
	return l
}

func thrownNumbers(d *dice) []int {
	l := []int{}
	for range d.below(9) {
		l = append(l, int(someNumbers[d.below(8)]))
		if d.below(12) == 0 {
			l[len(l)-1] = int(someNumbers[d.below(len(someNumbers))])
		}
	}
	return l
}

func isBeyond(n int64) bool { return n > 1000000 || n < -1000000 }

// firstPlace is the first place of a name, or -1.
func firstPlace(names []string, name string) int {
	for i, n := range names {
		if n == name {
			return i
		}
	}
	return -1
}

// saidNorm is what the chapter's words say, name by name.
func saidNorm(s api.Size) (api.Size, api.Fault) {
	if len(s) > 1000 {
		return nil, api.Fault{Code: api.ErrMany, At: -1}
	}
	sums := map[string]int64{}
	for i, t := range s {
		if isBeyond(t.N) {
			return nil, api.Fault{Code: api.ErrRange, At: i}
		}
		sums[t.Name] += t.N
	}
	var names []string
	for name := range sums {
		names = append(names, name)
	}
	sort.Strings(names)
	var norm api.Size
	for _, name := range names {
		if sums[name] != 0 {
			norm = append(norm, api.Term{N: sums[name], Name: name})
		}
	}
	return norm, api.Fault{}
}

// saidWith is what the chapter's words say, term by term.
func saidWith(s api.Size, names []string, l []api.Size) (api.Size, api.Fault) {
	var come api.Size
	outside := false
	for _, t := range s {
		place := firstPlace(names, t.Name)
		if t.Name == "" || place < 0 || place >= len(l) {
			come = append(come, t)
			continue
		}
		for _, u := range l[place] {
			outside = outside || isBeyond(t.N) || isBeyond(u.N)
			come = append(come, api.Term{N: t.N * u.N, Name: u.Name})
		}
	}
	if outside {
		return nil, api.Fault{Code: api.ErrRange, At: -1}
	}
	if len(come) > 1000 {
		return nil, api.Fault{Code: api.ErrMany, At: -1}
	}
	return come, api.Fault{}
}

// saidValue is what the chapter's words say, term by term of the normal form.
func saidValue(s api.Size, names []string, l []int) (int, api.Fault) {
	norm, fault := saidNorm(s)
	value := 0
	for _, t := range norm {
		n := 1
		if t.Name != "" {
			place := firstPlace(names, t.Name)
			if place < 0 || place >= len(l) {
				return 0, api.Fault{Code: api.ErrNone, At: -1}
			}
			n = l[place]
		}
		if isBeyond(int64(n)) {
			return 0, api.Fault{Code: api.ErrRange, At: -1}
		}
		value += int(t.N) * n
	}
	return value, fault
}

// P4.1 to P4.4: many sizes, held against the chapter's words.
func TestWhatIsSaid(t *testing.T) {
	d := dice(4)
	seen := map[string]int{}
	for range 60000 {
		s, names, l, numbers := thrown(&d, 6, 20), thrownNames(&d), thrownSizes(&d), thrownNumbers(&d)
		norm, fault := Norm(s)
		saidN, saidF := saidNorm(s)
		if !slices.Equal(norm, saidN) || fault != saidF {
			t.Fatalf("Norm(%v): %v, %v, want %v, %v", s, norm, fault, saidN, saidF)
		}
		seen[fmt.Sprint("Norm ", fault.Code)]++
		with, fault := With(s, names, l)
		saidW, saidF := saidWith(s, names, l)
		if !slices.Equal(with, saidW) || fault != saidF {
			t.Fatalf("With(%v, %q, %v): %v, %v, want %v, %v", s, names, l, with, fault, saidW, saidF)
		}
		seen[fmt.Sprint("With ", fault.Code)]++
		value, fault := Value(s, names, numbers)
		saidV, saidF := saidValue(s, names, numbers)
		if value != saidV || fault != saidF {
			t.Fatalf("Value(%v, %q, %v): %v, %v, want %v, %v", s, names, numbers, value, fault, saidV, saidF)
		}
		seen[fmt.Sprint("Value ", fault.Code)]++
	}
	for _, what := range []string{"Norm 0", "Norm 16", "With 0", "With 16", "Value 0", "Value 9", "Value 16"} {
		if seen[what] < 100 {
			t.Errorf("%s: seen but %d times", what, seen[what])
		}
	}
}

// P4.2, and what follows: two sizes are the same just if they come to the same
// number, whatever numbers names are.
func TestSameIsSameValue(t *testing.T) {
	d := dice(2)
	alike := 0
	for range 20000 {
		a, b := thrown(&d, 4, 40), thrown(&d, 4, 40)
		_, faultA := Norm(a)
		_, faultB := Norm(b)
		both := faultA.Code == 0 && faultB.Code == 0
		want := both && neverApart(t, a, b)
		wantSame(t, fmt.Sprint(a, " and ", b), a, b, want)
		if want {
			alike++
		}
		mixed := slices.Clone(a)
		for i := range mixed {
			j := d.below(i + 1)
			mixed[i], mixed[j] = mixed[j], mixed[i]
		}
		wantSame(t, fmt.Sprint(a, " and ", mixed), a, mixed, faultA.Code == 0)
	}
	if alike < 100 {
		t.Errorf("but %d sizes that are alike", alike)
	}
}

// neverApart tells whether two sizes come to one number with each name 0, and
// with one name 1, the others 0; sums of terms that do never come apart.
func neverApart(t *testing.T, a, b api.Size) bool {
	for one := range someNames {
		numbers := make([]int, len(someNames))
		numbers[one] = 1
		m, faultM := Value(a, someNames, numbers)
		n, faultN := Value(b, someNames, numbers)
		if faultM.Code != 0 || faultN.Code != 0 {
			t.Fatalf("Value of %v and %v: faults %v and %v", a, b, faultM, faultN)
		}
		if m != n {
			return false
		}
	}
	return true
}

// What follows: With, and then Value, is Value with the values of what is put in.
func TestWithThenValue(t *testing.T) {
	d := dice(3)
	names, outer := []string{"a", "b"}, []string{"n", "ab", "\xff", "a", "b"}
	for range 5000 {
		s, l := thrown(&d, 5, 1<<30), []api.Size{thrown(&d, 3, 1<<30), thrown(&d, 3, 1<<30)}
		for _, x := range append(l, s) {
			for i := range x {
				x[i].N %= 10
			}
		}
		numbers := []int{d.below(20) - 10, d.below(20) - 10, d.below(20) - 10, d.below(20) - 10, d.below(20) - 10}
		put, fault := With(s, names, l)
		value, fault2 := Value(put, outer, numbers)
		a, fault3 := Value(l[0], outer, numbers)
		b, fault4 := Value(l[1], outer, numbers)
		want, fault5 := Value(s, []string{"n", "ab", "\xff", "a", "b"}, []int{numbers[0], numbers[1], numbers[2], a, b})
		none := api.Fault{}
		if fault != none || fault2 != none || fault3 != none || fault4 != none || fault5 != none || value != want {
			t.Fatalf("%v with %v: %d, want %d (faults %v %v %v %v %v)", s, l, value, want, fault, fault2, fault3, fault4, fault5)
		}
	}
}

// spared gives a list room behind its length, with things in it that nobody may
// read or write.
func spared[T any](l []T, behind T) []T {
	roomy := append(slices.Clone(l), behind, behind, behind)
	return roomy[:len(l)]
}

// What is handed in stays as it was, and what lies behind it is neither read nor
// written; the answer is new memory, and the same once more.
func TestHandedIn(t *testing.T) {
	d := dice(5)
	behind := api.Term{N: 77, Name: "zz"}
	for range 4000 {
		s, names, l, numbers := thrown(&d, 6, 60), thrownNames(&d), thrownSizes(&d), thrownNumbers(&d)
		s2, names2, numbers2 := spared(s, behind), spared(names, "zz"), spared(numbers, 77)
		l2 := spared(l, api.Size{behind})
		for i := range l2 {
			l2[i] = spared(l2[i], behind)
		}
		before := fmt.Sprint(s2[:len(s2)+3], names2[:len(names2)+3], numbers2[:len(numbers2)+3], l2[:len(l2)+3])
		norm, fault := Norm(s2)
		with, faultW := With(s2, names2, l2)
		value, faultV := Value(s2, names2, numbers2)
		same := Same(s2, with)
		told := fmt.Sprint(norm, fault, with, faultW, value, faultV, same)
		for _, answer := range []api.Size{norm, with} {
			answer = answer[:cap(answer)]
			for i := range answer {
				answer[i] = api.Term{N: 5, Name: "written"}
			}
		}
		after := fmt.Sprint(s2[:len(s2)+3], names2[:len(names2)+3], numbers2[:len(numbers2)+3], l2[:len(l2)+3])
		for i := range l2 {
			if l2[i][:len(l2[i])+3][len(l2[i])] != behind {
				t.Fatalf("behind the size %d: %v", i, l2[i][:len(l2[i])+3])
			}
		}
		if before != after {
			t.Fatalf("handed in: %s, and then: %s", before, after)
		}
		norm, fault = Norm(s)
		with, faultW = With(s, names, l)
		value, faultV = Value(s, names, numbers)
		if again := fmt.Sprint(norm, fault, with, faultW, value, faultV, Same(s, with)); again != told {
			t.Fatalf("%s, and once more: %s", told, again)
		}
	}
}

// An answer is not the size that was put in, even where it is all of it.
func TestNewMemory(t *testing.T) {
	whole := sum(1, "a", 2, "b")
	norm, _ := Norm(whole)
	stays, _ := With(whole, nil, nil)
	put, _ := With(sum(1, "n"), []string{"n"}, []api.Size{whole})
	for _, answer := range []api.Size{norm, stays, put} {
		if !slices.Equal(answer, whole) {
			t.Fatalf("%v, want %v", answer, whole)
		}
		answer[0].N = 9
	}
	if !reflect.DeepEqual(whole, sum(1, "a", 2, "b")) {
		t.Errorf("handed in, and then: %v", whole)
	}
}

// P1: nil and empty lists are the same, in all places.
func TestNothing(t *testing.T) {
	for _, s := range []api.Size{nil, {}} {
		for _, names := range [][]string{nil, {}} {
			wantNorm(t, "nothing", s, nil)
			wantWith(t, "nothing", s, names, nil, nil)
			wantWith(t, "nothing", s, names, []api.Size{}, nil)
			wantWith(t, "nothing", sum(1, "a"), names, []api.Size{{}, nil}, sum(1, "a"))
			wantValue(t, "nothing", s, names, nil, 0)
			wantValue(t, "nothing", s, names, []int{}, 0)
			wantValueFault(t, "nothing", sum(1, "a"), names, []int{}, api.ErrNone, -1)
		}
	}
}

// P1: lists that are as long as one likes: each call ends, and soon.
func TestLong(t *testing.T) {
	const many = 1 << 17
	names := make([]string, many)
	s, l, numbers := rising(many), make([]api.Size, many), make([]int, many)
	one := sum(1, "")
	for i := range names {
		names[i], l[i], numbers[i] = s[many-1-i].Name, one, i
	}
	wantNormFault(t, "long", s, api.ErrMany, -1)
	wantSame(t, "long", s, s, false)
	wantWithFault(t, "long", s, names, l, api.ErrMany)
	wantWith(t, "long", s[many-1000:], names, l, times(1000, 1, ""))
	wantValueFault(t, "long", s, names, numbers, api.ErrMany, -1)
	wantValue(t, "long", s[many-1000:], names, numbers, 999*1000/2)
	l[many/2] = sum(1000001, "")
	wantWithFault(t, "long", s, names, l, api.ErrRange)
	for i := range l {
		l[i] = nil
	}
	wantWith(t, "long", s, names, l, nil)
}
