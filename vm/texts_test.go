package vm

import (
	"fmt"
	"strings"
)

// declared is a name as it is declared: 'i' or 'b', and how many cells; 0 is a scalar.
type declared struct {
	name string
	elem byte
	n    int
}

func (v declared) text() string {
	text := v.name + ": " + map[byte]string{'i': "int", 'b': "bool"}[v.elem]
	if v.n > 0 {
		text += fmt.Sprint("^", v.n)
	}
	return text
}

func declsOf(list []declared) string {
	var texts []string
	for _, v := range list {
		texts = append(texts, v.text())
	}
	return strings.Join(texts, ", ")
}

// author throws the texts of programs that are right.
type author struct {
	dice
	made  []declared // what may be used in the same row
	all   []declared // what may be used of the row ahead
	left  int        // how many parts an expression may still have
	sizes []int      // that most arrays have, so that some are of one size
}

// someText is two nodes that main may call: one that keeps things, and one that makes
// arrays longer.
const someText = `node kept<n>(x: int^n, y: int) -> (z: int^n, w: int) { z = map(add, x, pre(fill(y, n), z)); w = fold(max, y, z) + pre(0, w); }
node longer<n>(c: bool^n) -> (d: bool^2*n) { d = cat(pre(c, map(not, c)), c); }
`

func thrownText(number int) string {
	a := &author{dice: dice(number)}
	a.sizes = []int{a.cells(), a.cells()}
	in, out, local := a.decls("a", 0, 4), a.decls("y", 1, 3), a.decls("v", 0, 4)
	a.all = append(append(append(a.all, in...), out...), local...)
	a.made = append(a.made, in...)
	var eqs []string
	if a.below(3) == 0 {
		eqs = append(eqs, a.call(&local))
	}
	for _, v := range append(append([]declared{}, local...), out...) {
		if v.name[0] != 'c' {
			a.left = 25
			eqs = append(eqs, v.name+" = "+a.expr(v.elem, v.n, 4)+";")
			a.made = append(a.made, v)
		}
	}
	for i := range eqs {
		j := a.below(i + 1)
		eqs[i], eqs[j] = eqs[j], eqs[i]
	}
	var vars []string
	for _, v := range local {
		vars = append(vars, "var "+v.text()+";")
	}
	return someText + fmt.Sprintf("node main(%s) -> (%s) { %s %s }", declsOf(in), declsOf(out), strings.Join(vars, " "), strings.Join(eqs, " "))
}

func (a *author) decls(front string, least, most int) []declared {
	var list []declared
	for i := range least + a.below(most-least+1) {
		v := declared{fmt.Sprint(front, i), "iib"[a.below(3)], 0}
		if a.below(2) == 0 {
			v.n = a.cells()
		}
		list = append(list, v)
	}
	return list
}

func (a *author) cells() int {
	if len(a.sizes) > 0 && a.below(5) > 0 {
		return pick(&a.dice, a.sizes)
	}
	if a.below(40) == 0 {
		return pick(&a.dice, []int{299, 300, 150})
	}
	return 1 + a.below(5)
}

// call is an equation by which another node makes names more.
func (a *author) call(local *[]declared) string {
	n := 1 + a.below(4)
	a.left = 20
	if a.below(2) == 0 {
		x, y := a.expr('i', n, 2), a.expr('i', 0, 2)
		a.declare(local, declared{"c0", 'i', n}, declared{"c1", 'i', 0})
		return fmt.Sprintf("c0, c1 = call kept<%d>(%s, %s);", n, x, y)
	}
	c := a.expr('b', n, 2)
	a.declare(local, declared{"c0", 'b', 2 * n})
	return fmt.Sprintf("c0 = call longer<%d>(%s);", n, c)
}

func (a *author) declare(local *[]declared, list ...declared) {
	*local = append(*local, list...)
	a.made, a.all = append(a.made, list...), append(a.all, list...)
}

// leaf is a name of those, if one is of that type, or else what is the shortest.
func (a *author) leaf(names []declared, elem byte, n int) string {
	first := a.below(len(names) + 1)
	for i := range names {
		if v := names[(first+i)%len(names)]; v.elem == elem && v.n == n && a.below(6) > 0 {
			return v.name
		}
	}
	switch {
	case n > 0:
		return fmt.Sprintf("fill(%s, %d)", a.leaf(names, elem, 0), n)
	case elem == 'b':
		return pick(&a.dice, []string{"true", "false"})
	}
	return fmt.Sprint(pick(&a.dice, []int64{0, 1, 2, 3, 4, 5, 7, 999999999999999999}))
}

// expr is of that type, and of parts so far within one another.
func (a *author) expr(elem byte, n, deep int) string {
	a.left -= 2
	if deep == 0 || a.left < 8 || a.below(6) == 0 {
		return a.leaf(a.made, elem, n)
	}
	part := func(elem byte, n int) string { return a.expr(elem, n, deep-1) }
	switch a.below(7) {
	case 0:
		return fmt.Sprintf("(if %s then %s else %s)", part('b', 0), part(elem, n), part(elem, n))
	case 1:
		return fmt.Sprintf("pre(%s, %s)", part(elem, n), a.leaf(a.all, elem, n))
	case 2:
		return fmt.Sprintf("pre(%s, %s)", a.leaf(a.made, elem, n), part(elem, n))
	}
	if n > 0 {
		return a.array(elem, n, part)
	}
	return a.scalar(elem, part)
}

// The operators by what they take and make.
const (
	numbersToNumber = "add sub mul div mod min max"
	numbersToTruth  = "less eq"
	truthsToTruth   = "and or xor"
)

func (a *author) oneOf(names string) string { return pick(&a.dice, strings.Fields(names)) }

func (a *author) folding(elem byte) string {
	if elem == 'i' {
		return a.oneOf(numbersToNumber)
	}
	return a.oneOf(truthsToTruth)
}

func (a *author) scalar(elem byte, part func(elem byte, n int) string) string {
	n := a.cells()
	switch a.below(6) {
	case 0:
		return fmt.Sprintf("(%s)[%s : %s]", part(elem, n), part('i', 0), part(elem, 0))
	case 1, 2:
		return fmt.Sprintf("fold(%s, %s, %s)", a.folding(elem), part(elem, 0), part(elem, n))
	}
	if elem == 'i' {
		sign := a.oneOf("+ - * / % min max -")
		switch {
		case sign[0] == 'm':
			return fmt.Sprintf("%s(%s, %s)", sign, part('i', 0), part('i', 0))
		case sign == "-" && a.below(2) == 0:
			return fmt.Sprintf("(-%s)", part('i', 0))
		}
		return fmt.Sprintf("(%s %s %s)", part('i', 0), sign, part('i', 0))
	}
	switch a.below(3) {
	case 0:
		return fmt.Sprintf("(not %s)", part('b', 0))
	case 1:
		return fmt.Sprintf("(%s %s %s)", part('i', 0), a.oneOf("< =="), part('i', 0))
	}
	return fmt.Sprintf("(%s %s %s)", part('b', 0), a.oneOf(truthsToTruth), part('b', 0))
}

func (a *author) array(elem byte, n int, part func(elem byte, n int) string) string {
	switch a.below(8) {
	case 0:
		return fmt.Sprintf("fill(%s, %d)", part(elem, 0), n)
	case 1:
		return fmt.Sprintf("with(%s, %s, %s)", part(elem, n), part('i', 0), part(elem, 0))
	case 2:
		return fmt.Sprintf("scan(%s, %s, %s)", a.folding(elem), part(elem, 0), part(elem, n))
	case 3:
		from := a.below(3)
		if more := from + a.below(2); n+more <= 300 {
			return fmt.Sprintf("slice(%s, %d, %d)", part(elem, n+more), from, n)
		}
	case 4:
		if n > 1 {
			front := 1 + a.below(n-1)
			return fmt.Sprintf("cat(%s, %s)", part(elem, front), part(elem, n-front))
		}
	case 5:
		return fmt.Sprintf("map(%s, %s)", map[byte]string{'i': "neg", 'b': "not"}[elem], part(elem, n))
	}
	if elem == 'b' && a.below(2) == 0 {
		return fmt.Sprintf("map(%s, %s, %s)", a.oneOf(numbersToTruth), part('i', n), part('i', n))
	}
	return fmt.Sprintf("map(%s, %s, %s)", a.folding(elem), part(elem, n), part(elem, n))
}
