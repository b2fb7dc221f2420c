package size

import (
	"fmt"
	"slices"
	"testing"

	"loomwork/api"
)

// sum makes a size of numbers and names, in turn.
func sum(parts ...any) api.Size {
	var s api.Size
	for i := 0; i < len(parts); i += 2 {
		s = append(s, api.Term{N: int64(parts[i].(int)), Name: parts[i+1].(string)})
	}
	return s
}

// times is a size of one term, that many times.
func times(count int, n int64, name string) api.Size {
	return slices.Repeat(api.Size{{N: n, Name: name}}, count)
}

// rising is a size of that many names, each once, rising.
func rising(count int) api.Size {
	s := api.Size{}
	for i := range count {
		s = append(s, api.Term{N: 1, Name: fmt.Sprintf("a%09d", i)})
	}
	return s
}

// told writes a size as a text, of which a fault may show the front.
func told(s api.Size) string { return fmt.Sprint(s) }

func wantNorm(t *testing.T, what string, s, want api.Size) {
	t.Helper()
	got, fault := Norm(s)
	if fault != (api.Fault{}) || !slices.Equal(got, want) {
		t.Errorf("%s: Norm: %.200s, fault %v, want %.200s", what, told(got), fault, told(want))
	}
}

func wantNormFault(t *testing.T, what string, s api.Size, code, at int) {
	t.Helper()
	got, fault := Norm(s)
	if fault != (api.Fault{Code: code, At: at}) || len(got) != 0 {
		t.Errorf("%s: Norm: %.200s, fault %v, want fault {%d %d}", what, told(got), fault, code, at)
	}
}

// wantSame asks for the same answer in both orders.
func wantSame(t *testing.T, what string, a, b api.Size, want bool) {
	t.Helper()
	if Same(a, b) != want || Same(b, a) != want {
		t.Errorf("%s: Same: %v and %v, want %v", what, Same(a, b), Same(b, a), want)
	}
}

func wantWith(t *testing.T, what string, s api.Size, names []string, l []api.Size, want api.Size) {
	t.Helper()
	got, fault := With(s, names, l)
	if fault != (api.Fault{}) || !slices.Equal(got, want) {
		t.Errorf("%s: With: %.200s, fault %v, want %.200s", what, told(got), fault, told(want))
	}
}

func wantWithFault(t *testing.T, what string, s api.Size, names []string, l []api.Size, code int) {
	t.Helper()
	got, fault := With(s, names, l)
	if fault != (api.Fault{Code: code, At: -1}) || len(got) != 0 {
		t.Errorf("%s: With: %.200s, fault %v, want fault {%d -1}", what, told(got), fault, code)
	}
}

func wantValue(t *testing.T, what string, s api.Size, names []string, l []int, want int) {
	t.Helper()
	got, fault := Value(s, names, l)
	if fault != (api.Fault{}) || got != want {
		t.Errorf("%s: Value: %d, fault %v, want %d", what, got, fault, want)
	}
}

func wantValueFault(t *testing.T, what string, s api.Size, names []string, l []int, code, at int) {
	t.Helper()
	got, fault := Value(s, names, l)
	if fault != (api.Fault{Code: code, At: at}) || got != 0 {
		t.Errorf("%s: Value: %d, fault %v, want fault {%d %d}", what, got, fault, code, at)
	}
}

// dice throws the same numbers in each run.
type dice uint64

func (d *dice) below(n int) int {
	*d = *d*6364136223846793005 + 1442695040888963407
	return int(uint64(*d) >> 33 % uint64(n))
}
