package book

import (
	"acre/answers"
	"acre/api"
	"acre/blocks"
)

// anyToken is in the commands that the book tells of itself: a command needs one, and nobody asks for it.
const anyToken = "x"

// blockText tells how a block of the book is written.
func blockText(b api.Block) string {
	// The book has only right blocks, so there is no error to look at.
	text, _ := blocks.Write(b)
	return text
}

// told tells something with its owner, as the questions are answered.
func told(what, owner string) string { return what + "=" + owner }

// tell makes the answer that tells each of a list.
func tell[T interface{ text() string }](list []T) answers.Answer {
	texts := make([]string, 0, len(list))
	for _, x := range list {
		texts = append(texts, x.text())
	}
	return answers.OK(texts...)
}
