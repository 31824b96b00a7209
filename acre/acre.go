// Package acre: addresses that are handed out: see DOC.md.
package acre

import (
	"acre/answers"
	"acre/api"
	"acre/blocks"
	"acre/book"
	"acre/disk"
	"acre/lines"
	"acre/snapshot"
	"acre/store"
	"acre/tokens"
)

// Book has pools, subnets and leases.
type Book struct {
	store  store.Store
	has    *book.Book
	tokens tokens.Table
	down   bool // a command could not be made safe: nothing is answered any more
}

// Read reads a block (P3).
func Read(s string) (api.Block, api.Errno) { return blocks.Read(s) }

// Write writes a block (P3).
func Write(b api.Block) (string, api.Errno) { return blocks.Write(b) }

// Parent tells a block's parent (P4).
func Parent(b api.Block) (api.Block, api.Errno) { return blocks.Parent(b) }

// Buddy tells a block's buddy (P4).
func Buddy(b api.Block) (api.Block, api.Errno) { return blocks.Buddy(b) }

// Halves tells a block's halves (P4).
func Halves(b api.Block) (api.Block, api.Block, api.Errno) { return blocks.Halves(b) }

// Meet tells whether two blocks meet (P4).
func Meet(a api.Block, b api.Block) bool { return blocks.Meet(a, b) }

// Open makes a book of what is on a disk (P5, P11).
func Open(d *disk.Disk) (*Book, api.Errno) {
	// No disk at all does no step either.
	if d == nil || d.Stopped() {
		return nil, api.ErrDown
	}
	kept := store.On(d)
	has, done, right := snapshot.Read(kept.Text())
	if !right {
		// Somebody else wrote on the disk: a book on it would lay itself over what is there.
		return nil, api.ErrDown
	}
	return &Book{store: kept, has: has, tokens: done}, api.OK
}

// Do does a line, and answers it (P5 to P10, P12).
func (x *Book) Do(line string) string {
	if x.down {
		return ""
	}
	l, right := lines.Read(line)
	switch {
	case !right:
		return answers.Refuse(answers.Line).Text()
	case l.Verb.IsCommand():
		return x.command(l, line)
	}
	return x.has.Do(l).Text()
}

// command does a command, or answers it from the table of tokens.
func (x *Book) command(l lines.Line, line string) string {
	if done, found := x.tokens.Find(l.Token); found {
		return again(done, line)
	}
	answer := x.has.Do(l)
	text := answer.Text()
	if !answer.IsOK() {
		return text
	}
	x.tokens.Add(tokens.Entry{Token: l.Token, Line: line, Answer: text})
	if !x.store.Put(snapshot.Write(x.has, x.tokens)) {
		// The command stays done here, and nobody sees it: there is no answer from now on.
		x.down = true
		return ""
	}
	return text
}

// again answers a line whose token is in the table.
func again(done tokens.Entry, line string) string {
	if done.Line != line {
		return answers.Refuse(answers.Token).Text()
	}
	return done.Answer
}
