// Package answers: what lines are answered with.
package answers

import "strings"

// Word is a word of an answer.
type Word int

// The words: how an answer begins first, behind these why a line is refused.
const (
	ok Word = iota
	err
	Line
	Token
	Range
	Overlap
	Limit
	Pool
	Owner
	Busy
	Full
	Net
	Addr
	Taken
)

var words = [...]string{
	ok:      "OK",
	err:     "ERR",
	Line:    "LINE",
	Token:   "TOKEN",
	Range:   "RANGE",
	Overlap: "OVERLAP",
	Limit:   "LIMIT",
	Pool:    "POOL",
	Owner:   "OWNER",
	Busy:    "BUSY",
	Full:    "FULL",
	Net:     "NET",
	Addr:    "ADDR",
	Taken:   "TAKEN",
}

// Answer is OK with what is told behind it, or a refusal.
type Answer struct {
	refusal Word // ok, if there is none
	told    []string
}

// OK makes the answer to a line that was done, with what is told behind the OK.
func OK(told ...string) Answer { return Answer{told: told} }

// Refuse makes the answer to a line that is refused.
func Refuse(why Word) Answer { return Answer{refusal: why} }

// IsOK tells whether the line was done.
func (a Answer) IsOK() bool { return a.refusal == ok }

// Text tells how the answer is written.
func (a Answer) Text() string {
	if !a.IsOK() {
		return words[err] + " " + words[a.refusal]
	}
	var out strings.Builder
	out.WriteString(words[ok])
	for _, t := range a.told {
		out.WriteString(" ")
		out.WriteString(t)
	}
	return out.String()
}
