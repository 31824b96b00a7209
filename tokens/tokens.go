// Package tokens: the table of the last commands that were answered with OK.
package tokens

import (
	"slices"
	"strings"

	"acre/api"
)

// Entry is a command and how it was answered.
type Entry struct {
	Token  string
	Line   string
	Answer string
}

// Table has the last commands, the oldest first.
type Table struct {
	places chan Entry
}

// New makes an empty table.
func New() Table {
	return Table{places: make(chan Entry, api.MaxTokens)}
}

// Add puts a command behind the others; the oldest goes where there is no room for it.
func (t Table) Add(e Entry) {
	// Copies: what is kept is not to keep a longer text with it.
	e.Line = strings.Clone(e.Line)
	e.Answer = strings.Clone(e.Answer)
	for {
		select {
		case t.places <- e:
			return
		default:
			<-t.places
		}
	}
}

// Find tells the command with a token; false, if there is none.
func (t Table) Find(token string) (Entry, bool) {
	all := t.All()
	at := slices.IndexFunc(all, func(e Entry) bool { return e.Token == token })
	if at < 0 {
		return Entry{}, false
	}
	return all[at], true
}

// All tells the commands, the oldest first.
func (t Table) All() []Entry {
	out := make([]Entry, 0, api.MaxTokens)
	// Once all the way round: only then they stand as before.
	for range len(t.places) {
		e := <-t.places
		t.places <- e
		out = append(out, e)
	}
	return out
}
