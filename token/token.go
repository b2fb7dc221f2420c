// Package token: see doc/01-token.md.
package token

import (
	"strings"

	"loomwork/api"
)

// maxDigits keeps every number below api.MaxNum.
const maxDigits = 18

const oneByteSigns = "(){}[]<>,;:+-*/%=^"

// Word tells whether s is one of the words of the language.
func Word(s string) bool {
	switch s {
	case "add", "and", "bool", "call", "cat", "div", "else", "eq",
		"false", "fill", "fold", "if", "int", "less", "map", "max",
		"min", "mod", "mul", "neg", "node", "not", "or", "pre",
		"scan", "slice", "sub", "then", "true", "var", "with", "xor":
		return true
	}
	return false
}

// Name tells whether s is a name.
func Name(s string) bool {
	if s == "" || len(s) > api.MaxName || !isLetter(s[0]) {
		return false
	}
	return runLength(s) == len(s) && !Word(s)
}

// Scan answers the tokens of a text, or the first fault from its front.
func Scan(src string) ([]api.Token, api.Fault) {
	if len(src) > api.MaxText {
		return nil, api.Fault{Code: api.ErrMany, At: api.MaxText}
	}
	var tokens []api.Token
	for at := blankLength(src); at < len(src); {
		t, code := read(src[at:])
		if code != 0 {
			return nil, api.Fault{Code: code, At: at}
		}
		t.At = at
		tokens = append(tokens, t)
		at += len(t.Text)
		at += blankLength(src[at:])
	}
	return tokens, api.Fault{}
}

// read answers the token at the front of a text, or a fault's code. The text
// is not empty and no blank stands at its front.
func read(rest string) (api.Token, int) {
	n := runLength(rest)
	switch {
	case n == 0:
		return readSign(rest)
	case isDigit(rest[0]):
		return readNumber(rest[:n])
	}
	return readWordOrName(rest[:n])
}

func readWordOrName(run string) (api.Token, int) {
	if Word(run) {
		return makeToken(api.TokWord, run), 0
	}
	if len(run) > api.MaxName {
		return api.Token{}, api.ErrName
	}
	return makeToken(api.TokName, run), 0
}

func readNumber(run string) (api.Token, int) {
	if len(run) > maxDigits || len(run) > 1 && run[0] == '0' {
		return api.Token{}, api.ErrNumber
	}
	t := makeToken(api.TokNumber, run)
	for i := range len(run) {
		if !isDigit(run[i]) {
			return api.Token{}, api.ErrNumber
		}
		t.N = t.N*10 + int64(run[i]-'0')
	}
	return t, 0
}

func readSign(rest string) (api.Token, int) {
	n := signLength(rest)
	if n == 0 {
		return api.Token{}, api.ErrText
	}
	return makeToken(api.TokSign, rest[:n]), 0
}

// makeToken copies the text, since an answer shares no memory with what was
// handed in.
func makeToken(kind int, text string) api.Token {
	return api.Token{Kind: kind, Text: strings.Clone(text)}
}

// signLength answers how long the sign at the front of s is: 0 if there is
// none. The signs of two bytes come first, since a token goes on as long as
// it can.
func signLength(s string) int {
	switch {
	case strings.HasPrefix(s, "=="), strings.HasPrefix(s, "->"):
		return 2
	case s != "" && strings.IndexByte(oneByteSigns, s[0]) >= 0:
		return 1
	}
	return 0
}

// runLength answers how many letters and digits stand at the front of s. It
// goes by bytes, not by runes, since a text may be any bytes at all.
func runLength(s string) int {
	for i := range len(s) {
		if !isLetter(s[i]) && !isDigit(s[i]) {
			return i
		}
	}
	return len(s)
}

// blankLength answers how many bytes of blanks and remarks stand at the front
// of s.
func blankLength(s string) int {
	inRemark := false
	for i := range len(s) {
		switch {
		case s[i] == '\n':
			inRemark = false
		case s[i] == '#':
			inRemark = true
		case !inRemark && !isBlank(s[i]):
			return i
		}
	}
	return len(s)
}

func isBlank(b byte) bool { return b == ' ' || b == '\t' || b == '\n' || b == '\r' }

func isLetter(b byte) bool { return 'a' <= b && b <= 'z' }

func isDigit(b byte) bool { return '0' <= b && b <= '9' }
