package token

import (
	"slices"
	"strconv"
	"strings"
	"testing"

	"loomwork/api"
)

const allWords = "add and bool call cat div else eq false fill fold if int less map max min mod mul neg node not or pre scan slice sub then true var with xor"

const allSigns = "( ) { } [ ] < > , ; : + - * / % = ^ == ->"

func word(at int, text string) api.Token {
	return api.Token{Kind: api.TokWord, At: at, Text: text}
}

func name(at int, text string) api.Token {
	return api.Token{Kind: api.TokName, At: at, Text: text}
}

func number(at int, text string, n int64) api.Token {
	return api.Token{Kind: api.TokNumber, At: at, Text: text, N: n}
}

func sign(at int, text string) api.Token {
	return api.Token{Kind: api.TokSign, At: at, Text: text}
}

func wantTokens(t *testing.T, src string, want ...api.Token) {
	t.Helper()
	got, fault := Scan(src)
	if fault != (api.Fault{}) {
		t.Errorf("Scan(%.60q): fault %v, want none", src, fault)
	}
	if !slices.Equal(got, want) {
		t.Errorf("Scan(%.60q): %v, want %v", src, got, want)
	}
}

func wantFault(t *testing.T, src string, code, at int) {
	t.Helper()
	got, fault := Scan(src)
	if want := (api.Fault{Code: code, At: at}); fault != want {
		t.Errorf("Scan(%.60q): fault %v, want %v", src, fault, want)
	}
	if len(got) != 0 {
		t.Errorf("Scan(%.60q): %d tokens beside a fault", src, len(got))
	}
}

// P1.1: the chapter's examples.
func TestScanExamples(t *testing.T) {
	wantTokens(t, "x1=10#a\n;", name(0, "x1"), sign(2, "="), number(3, "10", 10), sign(8, ";"))
	wantFault(t, "012", api.ErrNumber, 0)
	wantTokens(t, "a->-b", name(0, "a"), sign(1, "->"), sign(3, "-"), name(4, "b"))
}

// P1.1: ordinary texts.
func TestScanOrdinary(t *testing.T) {
	wantTokens(t, "node main(x: int) -> (y: bool^2*n) {",
		word(0, "node"), name(5, "main"), sign(9, "("), name(10, "x"), sign(11, ":"), word(13, "int"), sign(16, ")"),
		sign(18, "->"), sign(21, "("), name(22, "y"), sign(23, ":"), word(25, "bool"), sign(29, "^"),
		number(30, "2", 2), sign(31, "*"), name(32, "n"), sign(33, ")"), sign(35, "{"))
	wantTokens(t, "y=x+pre(0,y);\n",
		name(0, "y"), sign(1, "="), name(2, "x"), sign(3, "+"), word(4, "pre"), sign(7, "("),
		number(8, "0", 0), sign(9, ","), name(10, "y"), sign(11, ")"), sign(12, ";"))
}

// P1.1: a text without tokens.
func TestScanEmpty(t *testing.T) {
	for _, src := range []string{"", " ", "\t", "\n", "\r", " \t\n\r", "#", "#\n", "# a == 1", "\r\n# a @ 012 \n#"} {
		wantTokens(t, src)
	}
}

// P1.1: signs, and those of two bytes wherever they stand together.
func TestScanSigns(t *testing.T) {
	for _, s := range strings.Fields(allSigns) {
		wantTokens(t, s, sign(0, s))
		wantTokens(t, "a"+s+"1", name(0, "a"), sign(1, s), number(1+len(s), "1", 1))
	}
	wantTokens(t, "===", sign(0, "=="), sign(2, "="))
	wantTokens(t, "====", sign(0, "=="), sign(2, "=="))
	wantTokens(t, "= =", sign(0, "="), sign(2, "="))
	wantTokens(t, "=#\n=", sign(0, "="), sign(3, "="))
	wantTokens(t, "-->>", sign(0, "-"), sign(1, "->"), sign(3, ">"))
	wantTokens(t, "- >", sign(0, "-"), sign(2, ">"))
	wantTokens(t, "=->=", sign(0, "="), sign(1, "->"), sign(3, "="))
	wantTokens(t, ">-<=", sign(0, ">"), sign(1, "-"), sign(2, "<"), sign(3, "="))
	wantTokens(t, "-1", sign(0, "-"), number(1, "1", 1))
}

// P1.1: each byte that may begin no token and is no blank is a fault.
func TestScanEachByte(t *testing.T) {
	const known = "abcdefghijklmnopqrstuvwxyz0123456789(){}[]<>,;:+-*/%=^ \t\n\r#"
	for b := range 256 {
		s := string([]byte{byte(b)})
		if strings.Contains(known, s) {
			if _, fault := Scan("a " + s); fault.Code != 0 {
				t.Errorf("byte %d: fault %v, want none", b, fault)
			}
			continue
		}
		wantFault(t, s, api.ErrText, 0)
		wantFault(t, "a"+s, api.ErrText, 1)
		wantFault(t, "12"+s+"a", api.ErrText, 2)
		wantFault(t, "-> "+s, api.ErrText, 3)
		wantTokens(t, "#"+s+"\n;", sign(3, ";"))
	}
}

// P1.1: blanks of each kind, and none.
func TestScanBlanks(t *testing.T) {
	for _, b := range []int{32, 9, 10, 13} {
		s := string([]byte{byte(b)})
		wantTokens(t, s+"a"+s+"1"+s+s+"=="+s, name(1, "a"), number(3, "1", 1), sign(6, "=="))
	}
	for _, b := range []int{0, 11, 12, 127, 133, 160} {
		wantFault(t, "a"+string([]byte{byte(b)})+"b", api.ErrText, 1)
	}
	wantTokens(t, "a;1)b", name(0, "a"), sign(1, ";"), number(2, "1", 1), sign(3, ")"), name(4, "b"))
}

// P1.1: remarks go on up to a newline, and to no other byte, or up to the end.
func TestScanRemarks(t *testing.T) {
	wantTokens(t, "a#b\nc", name(0, "a"), name(4, "c"))
	wantTokens(t, "a#b", name(0, "a"))
	wantTokens(t, "a#", name(0, "a"))
	wantTokens(t, "a#b\rc\td e", name(0, "a"))
	wantTokens(t, "#a#b\n#c\n\n1#", number(9, "1", 1))
	wantTokens(t, "12#3\n4", number(0, "12", 12), number(5, "4", 4))
	wantTokens(t, "#@\xff\x00 012 5x\nmap", word(12, "map"))
}

// P1.1: names, as long as they may be and longer.
func TestScanNames(t *testing.T) {
	long := strings.Repeat("z", api.MaxName)
	for _, s := range []string{"a", "z", "a0", "z9", "a1b2", "maps", "ma", "i", "nota", "x0x", long, "a" + strings.Repeat("9", api.MaxName-1)} {
		wantTokens(t, s, name(0, s))
		wantTokens(t, "("+s+")", sign(0, "("), name(1, s), sign(1+len(s), ")"))
	}
	wantFault(t, long+"z", api.ErrName, 0)
	wantFault(t, long+"9", api.ErrName, 0)
	wantFault(t, "a = "+long+long, api.ErrName, 4)
	wantTokens(t, long+" "+long, name(0, long), name(1+api.MaxName, long))
	wantFault(t, "map"+long, api.ErrName, 0)
}

// P1.1: numbers, as long as they may be and longer, and what is no number.
func TestScanNumbers(t *testing.T) {
	for s, n := range map[string]int64{
		"0": 0, "1": 1, "9": 9, "10": 10, "907": 907,
		"100000000000000000": api.MaxNum / 10,
		"123456789012345678": 123456789012345678,
		"999999999999999999": api.MaxNum - 1,
	} {
		wantTokens(t, s, number(0, s, n))
		wantTokens(t, "-"+s+";", sign(0, "-"), number(1, s, n), sign(1+len(s), ";"))
	}
	for _, s := range []string{
		"00", "01", "012", "000000000000000000", "1000000000000000000", "1234567890123456789",
		"9999999999999999999", "99999999999999999999999", "5x", "0x", "0x1", "1e5", "12345678901234567a", "5aaaaaaaaaaaaaaaaaaaa",
	} {
		wantFault(t, s, api.ErrNumber, 0)
		wantFault(t, "a+ "+s+";", api.ErrNumber, 3)
	}
	wantTokens(t, "1 2", number(0, "1", 1), number(2, "2", 2))
	wantTokens(t, "0 0", number(0, "0", 0), number(2, "0", 0))
}

// P1.1: a text of MaxText bytes, and of one more: that is told ahead of all else.
func TestScanLongTexts(t *testing.T) {
	wantTokens(t, strings.Repeat(" ", api.MaxText-1)+"a", name(api.MaxText-1, "a"))
	wantTokens(t, "a#"+strings.Repeat("@", api.MaxText-2), name(0, "a"))
	wantFault(t, strings.Repeat(" ", api.MaxText-1)+"@", api.ErrText, api.MaxText-1)
	tokens, fault := Scan(strings.Repeat("=", api.MaxText-1) + ";")
	if fault.Code != 0 || len(tokens) != api.MaxText/2+1 || tokens[len(tokens)-1] != sign(api.MaxText-1, ";") {
		t.Errorf("MaxText signs: %d tokens, fault %v", len(tokens), fault)
	}
	for _, front := range []string{"", "@", "012", strings.Repeat("a", api.MaxName+1)} {
		wantFault(t, front+strings.Repeat(" ", api.MaxText+1-len(front)), api.ErrMany, api.MaxText)
		wantFault(t, front+strings.Repeat("(", 3*api.MaxText), api.ErrMany, api.MaxText)
	}
}

// P1.1: of several faults the first from the front, whatever its kind.
func TestScanFirstFault(t *testing.T) {
	long := strings.Repeat("a", api.MaxName+1)
	faults := []struct {
		text string
		code int
	}{{long, api.ErrName}, {"012", api.ErrNumber}, {"5x", api.ErrNumber}, {"@", api.ErrText}, {"A", api.ErrText}}
	for _, first := range faults {
		for _, second := range faults {
			wantFault(t, first.text+" "+second.text, first.code, 0)
			wantFault(t, "#@\nx=="+first.text+"\n"+second.text, first.code, 6)
		}
	}
	wantFault(t, long+"@", api.ErrName, 0)
	wantFault(t, "5x@", api.ErrNumber, 0)
	wantFault(t, "a@5x", api.ErrText, 1)
	wantFault(t, "1A", api.ErrText, 1)
}

// P1.2: the words, and what is next to them.
func TestWord(t *testing.T) {
	words := strings.Fields(allWords)
	for _, s := range words {
		if !Word(s) {
			t.Errorf("Word(%q) is false", s)
		}
		wantTokens(t, s, word(0, s))
		wantTokens(t, "["+s+"]", sign(0, "["), word(1, s), sign(1+len(s), "]"))
		for _, near := range []string{s + "s", s + "1", s + " ", " " + s, s[1:], s[:len(s)-1], "x" + s, strings.ToUpper(s), strings.ToUpper(s[:1]) + s[1:], s + s} {
			if Word(near) != slices.Contains(words, near) {
				t.Errorf("Word(%q) is %v", near, Word(near))
			}
		}
	}
	for _, s := range []string{"", " ", "a", "main", "x1", "1", "==", "#", allWords, "\xff", strings.Repeat("map", api.MaxText)} {
		if Word(s) {
			t.Errorf("Word(%q) is true", s)
		}
	}
}

// P1.2: the words of up to three letters are just those that the chapter lists.
func TestWordShort(t *testing.T) {
	words := strings.Fields(allWords)
	for _, s := range textsOf("abcdefghijklmnopqrstuvwxyz", 3) {
		if Word(s) != slices.Contains(words, s) {
			t.Errorf("Word(%q) is %v", s, Word(s))
		}
	}
}

// P1.3: names, and what is none.
func TestName(t *testing.T) {
	long := strings.Repeat("z", api.MaxName)
	for _, s := range []string{"a", "z", "a0", "z9", "maps", "ma", "x1", "b2c3", long, "a" + strings.Repeat("0", api.MaxName-1)} {
		if !Name(s) {
			t.Errorf("Name(%q) is false", s)
		}
	}
	none := []string{"", long + "z", "a" + strings.Repeat("0", api.MaxName), "0", "1a", "9", "A", "aB", "a_b", "_a", "a b", " a", "a ", "a\n",
		"a#", "a-b", "a=", "->", "\x00", "a\x00", "a\xff", "\xc3\xa4", "a\xc3\xa4", strings.Repeat("a", 2*api.MaxText)}
	for _, s := range append(none, strings.Fields(allWords)...) {
		if Name(s) {
			t.Errorf("Name(%q) is true", s)
		}
	}
}

// P1.3: a byte behind a letter makes a name if it is a letter or a digit.
func TestNameEachByte(t *testing.T) {
	for b := range 256 {
		s := string([]byte{byte(b)})
		isLower, isDecimal := b >= 97 && b <= 122, b >= 48 && b <= 57
		if Name(s) != isLower {
			t.Errorf("Name of byte %d is %v", b, Name(s))
		}
		if Name("q"+s+"q") != (isLower || isDecimal) {
			t.Errorf("Name of byte %d between letters is %v", b, Name("q"+s+"q"))
		}
	}
}

// textsOf makes all texts of at most n bytes out of some.
func textsOf(some string, n int) []string {
	all := []string{""}
	for from := 0; n > 0; n-- {
		end := len(all)
		for _, s := range all[from:end] {
			for i := range len(some) {
				all = append(all, s+some[i:i+1])
			}
		}
		from = end
	}
	return all
}

// plainScan says what Scan must answer of a short text, byte by byte.
func plainScan(src string) ([]api.Token, api.Fault) {
	var list []api.Token
	within := func(i int, set string) bool { return i < len(src) && strings.IndexByte(set, src[i]) >= 0 }
	const letters, digits = "abcdefghijklmnopqrstuvwxyz", "0123456789"
	for i := 0; i < len(src); {
		j := i + 1
		switch {
		case within(i, " \t\n\r"):
		case src[i] == '#':
			for j < len(src) && src[j] != '\n' {
				j++
			}
		case within(i, letters+digits):
			for within(j, letters+digits) {
				j++
			}
			text := src[i:j]
			n, err := strconv.ParseInt(text, 10, 64)
			switch {
			case within(i, letters) && slices.Contains(strings.Fields(allWords), text):
				list = append(list, word(i, text))
			case within(i, letters):
				list = append(list, name(i, text))
			case err != nil || strconv.FormatInt(n, 10) != text:
				return nil, api.Fault{Code: api.ErrNumber, At: i}
			default:
				list = append(list, number(i, text, n))
			}
		default:
			if j < len(src) && (src[i:j+1] == "==" || src[i:j+1] == "->") {
				j++
			}
			if !slices.Contains(strings.Fields(allSigns), src[i:j]) {
				return nil, api.Fault{Code: api.ErrText, At: i}
			}
			list = append(list, sign(i, src[i:j]))
		}
		i = j
	}
	return list, api.Fault{}
}

// P1, P1.1: all short texts of bytes that act on one another.
func TestScanAllShortTexts(t *testing.T) {
	for _, src := range append(textsOf("or01=->#\n @", 5), textsOf("=->", 9)...) {
		want, wantedFault := plainScan(src)
		got, fault := Scan(src)
		if !slices.Equal(got, want) || fault != wantedFault {
			t.Fatalf("Scan(%q): %v %v, want %v %v", src, got, fault, want, wantedFault)
		}
	}
}

// What follows: tokens lie one behind the other; what is between them is blanks.
func TestTokensLieApart(t *testing.T) {
	for _, src := range textsOf("ab1=->#\n ", 5) {
		tokens, fault := Scan(src)
		if fault.Code != 0 {
			continue
		}
		end := 0
		for _, tok := range append(tokens, api.Token{At: len(src)}) {
			if tok.At < end || !strings.HasPrefix(src[tok.At:], tok.Text) {
				t.Fatalf("Scan(%q): token %v does not lie there", src, tok)
			}
			if rest, fault := Scan(src[end:tok.At]); len(rest) != 0 || fault.Code != 0 {
				t.Fatalf("Scan(%q): %q is left out", src, src[end:tok.At])
			}
			end = tok.At + len(tok.Text)
		}
	}
}

// What follows: two texts with a newline between have the tokens of both.
func TestTextsPutTogether(t *testing.T) {
	texts := textsOf("or1=->#\n ", 3)
	for i, a := range texts {
		first, fault := Scan(a)
		if fault.Code != 0 {
			continue
		}
		// Every seventh partner, each time from another one on: all pairs would take long.
		for j := i % 7; j < len(texts); j += 7 {
			second, fault := Scan(texts[j])
			if fault.Code != 0 {
				continue
			}
			want := slices.Clone(first)
			for _, tok := range second {
				tok.At += len(a) + 1
				want = append(want, tok)
			}
			got, fault := Scan(a + "\n" + texts[j])
			if fault.Code != 0 || !slices.Equal(got, want) {
				t.Fatalf("Scan(%q): %v %v, want %v", a+"\n"+texts[j], got, fault, want)
			}
		}
	}
}

// P1: every call ends without a panic, on whatever bytes, and answers the same again.
func TestCallsAlwaysAnswer(t *testing.T) {
	var texts []string
	for b := range 256 {
		for c := range 256 {
			texts = append(texts, string([]byte{byte(b), byte(c)}))
		}
		for _, n := range []int{api.MaxName, api.MaxText, api.MaxText + 1} {
			texts = append(texts, strings.Repeat(string([]byte{byte(b)}), n))
		}
	}
	for _, s := range texts {
		tokens, fault := Scan(s)
		again, faultAgain := Scan(s)
		if !slices.Equal(tokens, again) || fault != faultAgain || Word(s) != Word(s) || Name(s) != Name(s) {
			t.Fatalf("%.20q: another answer the second time", s)
		}
		if fault.Code == 0 && fault.At != 0 {
			t.Fatalf("%.20q: a place without a fault", s)
		}
	}
}

// P1: an answer that is changed changes no later one.
func TestAnswersAreNew(t *testing.T) {
	const src = "a = 1;"
	first, _ := Scan(src)
	want := slices.Clone(first)
	clear(first)
	_ = append(first, sign(0, "("))
	wantTokens(t, src, want...)
}
