// Package words takes a text apart into words (P3).
package words

import (
	"strings"

	"marshal/api"
	"marshal/fault"
)

// Kind tells words apart.
type Kind int

const (
	End Kind = iota // behind the last word
	Name
	Keyword
	Number
	Sign
)

const (
	signs  = "{}()[]<>*,;:="
	blanks = " \t\n"
)

// Word is a word and the place of its first byte. No name is spelt like a keyword or a sign: Text tells these by itself.
type Word struct {
	Kind Kind
	Text string
	N    int64 // of a number
	At   int
}

// Scanner gives a text's words one behind the other. It looks at a word only when it is asked for it, since of two wrong words the first one counts.
type Scanner struct {
	text string
	at   int
	next Word
	held bool
}

// New makes a scanner that stands at the beginning of a text.
func New(text string) *Scanner { return &Scanner{text: text} }

// Peek gives the next word, and leaves it there.
func (s *Scanner) Peek() Word {
	if !s.held {
		s.next, s.held = s.scan(), true
	}
	return s.next
}

// Next takes the next word; at the end there is always another End.
func (s *Scanner) Next() Word {
	w := s.Peek()
	s.held = false
	return w
}

func (s *Scanner) scan() Word {
	s.at += space(s.text[s.at:])
	w := first(s.text[s.at:], s.at)
	s.at += len(w.Text)
	return w
}

// space counts the bytes ahead of the next word.
func space(text string) int {
	at := 0
	for at < len(text) {
		n := comment(text[at:])
		if strings.IndexByte(blanks, text[at]) >= 0 {
			n = 1
		}
		if n == 0 {
			break
		}
		at += n
	}
	return at
}

// comment counts the bytes of the comment with which a text begins, 0 if it begins with none.
func comment(text string) int {
	body, begun := strings.CutPrefix(text, "/*")
	if !begun {
		return 0
	}
	inner, _, ended := strings.Cut(body, "*/")
	if !ended {
		return 0
	}
	return len("/*") + len(inner) + len("*/")
}

// first makes a word of the bytes with which a text begins; at is their place.
func first(text string, at int) Word {
	if text == "" {
		return Word{Kind: End, At: at}
	}
	switch c := text[0]; {
	case isLetter(c):
		return name(run(text), at)
	case isDigit(c) || c == '-':
		return number(run(text), at)
	case strings.IndexByte(signs, c) >= 0:
		return Word{Kind: Sign, Text: strings.Clone(text[:1]), At: at}
	}
	panic(fault.New(api.ErrChar, at))
}

// run gives the first byte and all letters, digits and _ behind it, as memory of its own: the text is not kept.
func run(text string) string {
	n := 1
	for n < len(text) && (isLetter(text[n]) || isDigit(text[n]) || text[n] == '_') {
		n++
	}
	return strings.Clone(text[:n])
}

func name(text string, at int) Word {
	if len(text) > api.MaxWord {
		panic(fault.New(api.ErrName, at))
	}
	if isKeyword(text) {
		return Word{Kind: Keyword, Text: text, At: at}
	}
	return Word{Kind: Name, Text: text, At: at}
}

func isKeyword(text string) bool {
	switch text {
	case "const", "typedef", "enum", "struct", "union", "switch", "case", "default", "void",
		"int", "unsigned", "hyper", "bool", "opaque", "string", "program", "version", "TRUE", "FALSE":
		return true
	}
	return false
}

func isLetter(c byte) bool { return 'a' <= c && c <= 'z' || 'A' <= c && c <= 'Z' }

func isDigit(c byte) bool { return '0' <= c && c <= '9' }
