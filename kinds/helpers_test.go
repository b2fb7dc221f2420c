package kinds

import (
	"strings"
	"testing"

	"loomwork/api"
	"loomwork/syntax"
)

// parsed ends the test if the text is no program.
func parsed(t *testing.T, text string) api.Program {
	t.Helper()
	p, fault := syntax.Parse(text)
	if fault.Code != 0 {
		t.Fatalf("Parse(%.300q): fault %v", text, fault)
	}
	return p
}

func wantFault(t *testing.T, what string, p api.Program, code, at int) {
	t.Helper()
	if fault := Check(p); fault != (api.Fault{Code: code, At: at}) {
		t.Errorf("%.300s: fault %v, want {%d %d}", what, fault, code, at)
	}
}

func wantRight(t *testing.T, text string) {
	t.Helper()
	wantFault(t, text, parsed(t, text), 0, 0)
}

func wantWrong(t *testing.T, text string, code, at int) {
	t.Helper()
	wantFault(t, text, parsed(t, text), code, at)
}

// aMain is a node that is right, with one equation, to stand behind others.
const aMain = " node main() -> (o: int) { o = 0; }"

// sized is a program of one node with the sizes n and m, and of aMain.
func sized(inputs, outputs, body string) string {
	return "node f<n, m>(" + inputs + ") -> (" + outputs + ") { " + body + " }" + aMain
}

// sum makes a size of numbers and names, in turn.
func sum(parts ...any) api.Size {
	var s api.Size
	for i := 0; i < len(parts); i += 2 {
		s = append(s, api.Term{N: int64(parts[i].(int)), Name: parts[i+1].(string)})
	}
	return s
}

// change is a piece of a text, what it becomes, and the fault that comes of it.
type change struct {
	from, to string
	code, at int
}

// made answers the text with the piece changed; false if it does not stand
// there just once.
func (c change) made(text string) (string, bool) {
	return strings.Replace(text, c.from, c.to, 1), strings.Count(text, c.from) == 1
}

// wantInOrder asks for the fault of each change, and, of any two changes that
// can both be made, for that of the one that stands ahead.
func wantInOrder(t *testing.T, text string, changes []change) {
	t.Helper()
	wantRight(t, text)
	for i, c := range changes {
		first, fits := c.made(text)
		if !fits {
			t.Fatalf("%q does not stand once in %q", c.from, text)
		}
		wantWrong(t, first, c.code, c.at)
		pairs := 0
		for _, d := range changes[i+1:] {
			if both, fits := d.made(first); fits {
				wantWrong(t, both, c.code, c.at)
				pairs++
			}
		}
		if behind := len(changes) - i - 1; pairs*2 < behind {
			t.Errorf("%q goes with %d of %d others alone", c.from, pairs, behind)
		}
	}
}

// dice throws the same numbers in each run.
type dice uint64

func (d *dice) below(n int) int {
	*d = *d*6364136223846793005 + 1442695040888963407
	return int(uint64(*d) >> 33 % uint64(n))
}
