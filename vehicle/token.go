package vehicle

import (
	"strings"

	"ullage/api"
)

// maxDigits is how many digits a number may have.
const maxDigits = 18

// kind is what a token is.
type kind int

const (
	kindEnd kind = iota // of the text
	kindSign
	kindNumber
	kindUnit
	kindName
	kindKeyword
)

// token is a token, and where it begins.
type token struct {
	kind kind
	text string
	at   int
}

// fault is the error that ends a reading, and where it is.
type fault struct {
	at int
	e  api.Errno
}

// must ends the reading, unless there is no error.
func must(at int, e api.Errno) {
	if e != api.OK {
		panic(fault{at, e})
	}
}

// upToFault runs a reading, and returns the fault that ended it, if one did.
func upToFault(read func()) (at int, e api.Errno) {
	defer func() {
		if f, ok := recover().(fault); ok {
			at, e = f.at, f.e
		}
	}()
	read()
	return 0, api.OK
}

// scanner cuts a text into tokens. No token is looked at before it is needed, as its own fault would come too early.
type scanner struct {
	text string
	next int // where the text behind the token now begins
	now  token
}

// advance looks at the next token.
func (s *scanner) advance() {
	rest := strings.TrimLeft(s.text[s.next:], " \n")
	at := len(s.text) - len(rest)
	what, length, e := firstToken(rest)
	must(at, e)
	s.now = token{what, rest[:length], at}
	s.next = at + length
}

// sees reports whether the token is one of some signs and words.
func (s *scanner) sees(texts ...string) bool {
	for _, text := range texts {
		if s.now.text == text {
			return true
		}
	}
	return false
}

// see ends the reading unless the token is that sign or word.
func (s *scanner) see(text string) {
	if !s.sees(text) {
		s.refuse(api.ErrForm)
	}
}

// pass goes on behind a sign or a word that has to stand here.
func (s *scanner) pass(text string) {
	s.see(text)
	s.advance()
}

// refuse ends the reading at the token, unless there is no error.
func (s *scanner) refuse(e api.Errno) {
	must(s.now.at, e)
}

// firstToken returns the kind and the length of the token at the beginning of a text, or the error of what is none.
func firstToken(text string) (kind, int, api.Errno) {
	switch {
	case text == "":
		return kindEnd, 0, api.OK
	case isLetter(text[0]):
		length := wordLength(text)
		if length > api.MaxName {
			return 0, 0, api.ErrForm
		}
		return wordKind(text[:length]), length, api.OK
	case isDigit(text[0]):
		length, digits := numberLength(text)
		if digits > maxDigits {
			return 0, 0, api.ErrRange
		}
		return kindNumber, length, api.OK
	case strings.HasPrefix(text, "+-") || strings.HasPrefix(text, ".."):
		return kindSign, 2, api.OK
	case strings.IndexByte("{};:=+-*/()", text[0]) >= 0:
		return kindSign, 1, api.OK
	}
	return 0, 0, api.ErrForm
}

// wordLength returns the length of the longest word at the beginning of a text, 0 if there is none.
func wordLength(text string) int {
	length := 0
	for i := range len(text) {
		switch {
		case isLetter(text[i]) || i > 0 && isDigit(text[i]):
			length = i + 1
		case i == 0 || text[i] != '-':
			return length
		}
	}
	return length
}

// numberLength returns the length of the number at the beginning of a text, and how many digits it has.
func numberLength(text string) (length, digits int) {
	whole := digitsLength(text)
	if behind, hasPoint := strings.CutPrefix(text[whole:], "."); hasPoint {
		if part := digitsLength(behind); part > 0 {
			return whole + 1 + part, whole + part
		}
	}
	return whole, whole
}

// digitsLength returns how many digits a text begins with.
func digitsLength(text string) int {
	length := 0
	for length < len(text) && isDigit(text[length]) {
		length++
	}
	return length
}

func isLetter(b byte) bool {
	return 'a' <= b && b <= 'z' || 'A' <= b && b <= 'Z'
}

func isDigit(b byte) bool {
	return '0' <= b && b <= '9'
}

// wordKind returns what a word is.
func wordKind(word string) kind {
	if _, isUnit := unitNamed(word); isUnit {
		return kindUnit
	}
	switch word {
	case "vehicle", "let", "stage", "engine", "in", "drag", "limits", "payload",
		"dry", "prop", "count", "thrust", "flow", "least", "start", "stop", "axial", "bending":
		return kindKeyword
	}
	return kindName
}

// isName reports whether a string is a word that is not reserved.
func isName(s string) bool {
	return s != "" && len(s) <= api.MaxName && wordLength(s) == len(s) && wordKind(s) == kindName
}
