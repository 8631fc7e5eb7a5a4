package scan

import (
	"strconv"
	"strings"

	"gambit/api"
)

type scanner struct {
	text string
	at   int
	line int
}

// Scan answers the tokens of a text with an End behind them, or the fault of the first one that is none.
func Scan(text string) ([]Token, api.Fault) {
	s := &scanner{text: text, line: 1}
	var tokens []Token
	for {
		token, ok := s.next()
		if !ok {
			// No token goes on over a line's end, so that the line where one breaks off is its own.
			return nil, api.Fault{Code: api.ErrSyntax, Line: s.line}
		}
		tokens = append(tokens, token)
		if token.Kind == End {
			return tokens, api.Fault{}
		}
	}
}

func (s *scanner) next() (Token, bool) {
	if !s.skip() {
		return Token{}, false
	}
	if s.at == len(s.text) {
		return Token{Kind: End, Line: s.line}, true
	}
	switch b := s.text[s.at]; {
	case isLetter(b):
		return s.name()
	case isDigit(b):
		return s.number()
	case b == '"':
		return s.quoted()
	}
	return s.sign()
}

// skip goes over spaces and comments; it is false at a byte that may not stand in a comment.
func (s *scanner) skip() bool {
	for s.at < len(s.text) {
		switch {
		case s.text[s.at] == '\n':
			s.line++
			s.at++
		case s.text[s.at] == ' ' || s.text[s.at] == '\t':
			s.at++
		case strings.HasPrefix(s.text[s.at:], "//"):
			if !s.comment() {
				return false
			}
		default:
			return true
		}
	}
	return true
}

func (s *scanner) comment() bool {
	for s.at < len(s.text) && s.text[s.at] != '\n' {
		if !isPrinting(s.text[s.at]) && s.text[s.at] != '\t' {
			return false
		}
		s.at++
	}
	return true
}

func (s *scanner) name() (Token, bool) {
	text := s.run(isNamePart)
	for _, word := range words {
		if word.text == text {
			return Token{Kind: word.kind, Line: s.line}, true
		}
	}
	if len(text) > api.MaxName {
		return Token{}, false
	}
	// A piece of the text would keep the caller's memory alive.
	return Token{Kind: Name, Line: s.line, Text: strings.Clone(text)}, true
}

func (s *scanner) number() (Token, bool) {
	value, err := strconv.ParseInt(s.run(isDigit), 10, 64)
	if err != nil {
		return Token{}, false
	}
	return Token{Kind: Int, Line: s.line, Value: value}, true
}

// run takes all bytes from here on that are of the sort.
func (s *scanner) run(sort func(byte) bool) string {
	start := s.at
	for s.at < len(s.text) && sort(s.text[s.at]) {
		s.at++
	}
	return s.text[start:s.at]
}

func (s *scanner) quoted() (Token, bool) {
	var value []byte
	s.at++
	for s.at < len(s.text) && isPrinting(s.text[s.at]) {
		b := s.text[s.at]
		s.at++
		if b == '"' {
			return Token{Kind: String, Line: s.line, Text: string(value)}, true
		}
		if b == '\\' {
			var ok bool
			if b, ok = s.escape(); !ok {
				return Token{}, false
			}
		}
		value = append(value, b)
	}
	return Token{}, false
}

// escape takes the byte behind a backslash and answers the one that is meant.
func (s *scanner) escape() (byte, bool) {
	if s.at == len(s.text) {
		return 0, false
	}
	b := s.text[s.at]
	s.at++
	switch b {
	case '"', '\\':
		return b, true
	case 'n':
		return '\n', true
	}
	return 0, false
}

func (s *scanner) sign() (Token, bool) {
	for _, sign := range signs {
		if strings.HasPrefix(s.text[s.at:], sign.text) {
			s.at += len(sign.text)
			return Token{Kind: sign.kind, Line: s.line}, true
		}
	}
	return Token{}, false
}

func isLetter(b byte) bool {
	return 'a' <= b && b <= 'z' || 'A' <= b && b <= 'Z'
}

func isDigit(b byte) bool {
	return '0' <= b && b <= '9'
}

func isNamePart(b byte) bool {
	return isLetter(b) || isDigit(b) || b == '_'
}

func isPrinting(b byte) bool {
	return ' ' <= b && b <= '~'
}
