// Package tokens: the table of the last commands that were answered with OK.
package tokens

import (
	"strings"

	"acre/api"
)

// Entry is a command and how it was answered.
type Entry struct {
	Token  string
	Line   string
	Answer string
}

// Table has the last commands, the oldest first.
type Table struct {
	places chan Entry
}

// New makes an empty table.
func New() Table {
	return Table{places: make(chan Entry, api.MaxTokens)}
}

// Add puts a command behind the others; the oldest goes where there is no room for it.
func (t Table) Add(e Entry) {
	// A copy: the line is kept, and is not to keep a longer text with it.
	e.Line = strings.Clone(e.Line)
	for {
		select {
		case t.places <- e:
			return
		default:
			<-t.places
		}
	}
}

// Find tells the command with a token; false, if there is none.
func (t Table) Find(token string) (Entry, bool) {
	var out Entry
	found := false
	// Once all the way round, even when it is found: only then they stand as before.
	for range len(t.places) {
		e := <-t.places
		t.places <- e
		if e.Token == token {
			out, found = e, true
		}
	}
	return out, found
}
