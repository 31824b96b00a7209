// Package snapshot: a book and its table of tokens as one text.
package snapshot

import (
	"strings"

	"acre/book"
	"acre/lines"
	"acre/tokens"
)

// A row of the text is a command that makes a part of the book, or, with the answer behind this sign, one of the table.
// Neither commands nor their answers have it, or what ends a row, in them.
const (
	answered = "="
	rowEnd   = "\n"
)

// Write writes a book and its table.
func Write(has *book.Book, done tokens.Table) string {
	var out strings.Builder
	for _, command := range has.Commands() {
		out.WriteString(command + rowEnd)
	}
	for _, e := range done.All() {
		out.WriteString(e.Line + answered + e.Answer + rowEnd)
	}
	return out.String()
}

// Read reads a book and its table; false, if the text is not of them.
func Read(text string) (*book.Book, tokens.Table, bool) {
	has, done := new(book.Book), tokens.New()
	for row := range strings.Lines(text) {
		if !readRow(has, done, strings.TrimSuffix(row, rowEnd)) {
			return nil, tokens.Table{}, false
		}
	}
	return has, done, true
}

// readRow puts what a row tells into the book or the table; false, if the row is none.
func readRow(has *book.Book, done tokens.Table, row string) bool {
	text, answer, isDone := strings.Cut(row, answered)
	line, right := lines.Read(text)
	if !right || !line.Verb.IsCommand() {
		return false
	}
	if !isDone {
		return has.Do(line).IsOK()
	}
	done.Add(tokens.Entry{Token: line.Token, Line: text, Answer: answer})
	return true
}
