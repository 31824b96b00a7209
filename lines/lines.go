// Package lines: the lines that are asked, and how they are read.
package lines

import (
	"strings"

	"acre/api"
	"acre/blocks"
)

// Line is a line that was read. What its verb does not ask for is empty.
type Line struct {
	Verb    Verb
	Token   string
	Owner   string
	Block   api.Block
	Address uint32
	Length  int
}

// Read reads a line; false, if the text is none.
func Read(text string) (Line, bool) {
	if len(text) > api.MaxLine {
		return Line{}, false
	}
	// A blank too many leaves an empty word, and no part may be one.
	words := strings.Split(text, " ")
	verb, known := readVerb(words[0])
	if !known {
		return Line{}, false
	}
	line := Line{Verb: verb}
	if !line.readParts(forms[verb].parts, words[1:]) {
		return Line{}, false
	}
	return line, true
}

// Write writes the line of a verb and the words behind it.
func Write(v Verb, words ...string) string {
	return forms[v].word + " " + strings.Join(words, " ")
}

// readParts reads the words behind the verb; false, if they are not just the parts.
func (l *Line) readParts(parts [mostParts]part, words []string) bool {
	if len(words) > mostParts {
		return false
	}
	for i, p := range parts {
		if i >= len(words) {
			return p == nothing
		}
		if !l.readPart(p, words[i]) {
			return false
		}
	}
	return true
}

// readPart reads one word; false, if it is not what the part has to be.
func (l *Line) readPart(p part, word string) bool {
	right := false
	switch p {
	case token:
		l.Token, right = readName(word)
	case owner:
		l.Owner, right = readName(word)
	case block:
		var e api.Errno
		l.Block, e = blocks.Read(word)
		right = e == api.OK
	case address:
		l.Address, right = blocks.ReadAddress(word)
	case length:
		l.Length, right = blocks.ReadBits(word)
	}
	return right
}

// readName reads a name; false, if the word is none.
func readName(word string) (string, bool) {
	if len(word) == 0 || len(word) > api.MaxName {
		return "", false
	}
	for _, c := range []byte(word) {
		if (c < 'a' || c > 'z') && (c < '0' || c > '9') {
			return "", false
		}
	}
	// A copy: names are kept, and are not to keep the whole text with them.
	return strings.Clone(word), true
}
