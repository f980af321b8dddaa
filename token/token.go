// Package token: tokens: see doc/01-token.md.
package token

import (
	"strings"

	"guardrail/api"
)

// Limits of single tokens, in bytes (of a text: between its marks).
const (
	maxName   = 20
	maxNumber = 9
	maxText   = 30
)

// Scan a text.
func Scan(s string) ([]api.Token, api.Fault) {
	if len(s) > api.MaxBytes {
		return nil, api.Fault{Err: api.ErrMany}
	}
	var tokens []api.Token
	for at := skip(s, 0); at < len(s); {
		t, size := first(s[at:])
		if size == 0 {
			return nil, api.Fault{Err: api.ErrForm, At: at}
		}
		if len(tokens) == api.MaxTokens {
			return nil, api.Fault{Err: api.ErrMany, At: at}
		}
		t.At = at
		tokens = append(tokens, t)
		at = skip(s, at+size)
	}
	return append(tokens, api.Token{Kind: api.TokenEnd, At: len(s)}), api.Fault{}
}

// skip answers where, from at on, the blanks and line feeds are over.
func skip(s string, at int) int {
	return at + span(s[at:], func(c byte) bool { return c == ' ' || c == '\n' })
}

// span counts the bytes at the front of s that go on.
func span(s string, goesOn func(c byte) bool) int {
	n := 0
	for n < len(s) && goesOn(s[n]) {
		n++
	}
	return n
}

// first answers the token that s begins with, without its place, and its size in s: 0 if there is none.
func first(s string) (api.Token, int) {
	switch c := s[0]; {
	case isDigit(c):
		return number(s)
	case isLetter(c):
		return nameOrWord(s)
	case c == '"':
		return text(s)
	}
	return sign(s)
}

func isDigit(c byte) bool { return '0' <= c && c <= '9' }

func isLetter(c byte) bool {
	return 'a' <= c && c <= 'z' || 'A' <= c && c <= 'Z' || c == '_'
}

func number(s string) (api.Token, int) {
	size := span(s, func(c byte) bool { return isDigit(c) })
	if size > maxNumber || s[0] == '0' && size > 1 {
		return api.Token{}, 0
	}
	return made(api.TokenNumber, s[:size]), size
}

func nameOrWord(s string) (api.Token, int) {
	size := span(s, func(c byte) bool { return isLetter(c) || isDigit(c) })
	switch {
	case size > maxName:
		return api.Token{}, 0
	case isWord(s[:size]):
		return made(api.TokenWord, s[:size]), size
	}
	return made(api.TokenName, s[:size]), size
}

func isWord(s string) bool {
	switch s {
	case "let", "fn", "if", "else", "while", "return", "print", "true", "false", "null", "as", "typeof",
		"num", "bool", "text", "any", "unknown":
		return true
	}
	return false
}

func text(s string) (api.Token, int) {
	size := span(s[1:], func(c byte) bool { return ' ' <= c && c <= '~' && c != '"' })
	if size > maxText || !strings.HasPrefix(s[1+size:], `"`) {
		return api.Token{}, 0
	}
	return made(api.TokenText, s[1:1+size]), size + 2
}

func sign(s string) (api.Token, int) {
	size := longest(s, "==", "=>", "(", ")", "{", "}", "[", "]", ",", ";", ":", ".", "=", "<", "+", "-", "*", "!", "|")
	if size == 0 {
		return api.Token{}, 0
	}
	return made(api.TokenSign, s[:size]), size
}

// longest answers the size of the longest sign that s begins with: 0 if it begins with none.
func longest(s string, signs ...string) int {
	size := 0
	for _, sign := range signs {
		if strings.HasPrefix(s, sign) {
			size = max(size, len(sign))
		}
	}
	return size
}

// made copies the text: an answer shares no memory with what was handed in.
func made(kind int, text string) api.Token {
	return api.Token{Kind: kind, Text: strings.Clone(text)}
}
