package book

import (
	"cmp"
	"slices"

	"acre/api"
	"acre/blocks"
	"acre/lines"
)

// holding is a block and who owns it: what pools and subnets are both.
type holding struct {
	block api.Block
	owner string
}

func (h holding) base() uint32 { return h.block.Base }

// is tells whether it has just this block.
func (h holding) is(b api.Block) bool { return h.block == b }

func (h holding) meets(b api.Block) bool { return blocks.Meet(h.block, b) }

// spans tells whether the block is in it.
func (h holding) spans(b api.Block) bool { return blocks.In(b, h.block) }

func (h holding) ownedBy(name string) bool { return h.owner == name }

func (h holding) text() string { return told(blockText(h.block), h.owner) }

// command tells the command with this verb that makes it.
func (h holding) command(v lines.Verb) string {
	return lines.Write(v, anyToken, h.owner, blockText(h.block))
}

// holder is what embeds a holding.
type holder interface {
	base() uint32
	is(b api.Block) bool
	meets(b api.Block) bool
	spans(b api.Block) bool
}

// find tells where the one with just this block is; below 0: there is none.
func find[H holder](list []H, b api.Block) int {
	return slices.IndexFunc(list, func(h H) bool { return h.is(b) })
}

// findSpanning tells where the one is that the block is in; below 0: there is none.
func findSpanning[H holder](list []H, b api.Block) int {
	return slices.IndexFunc(list, func(h H) bool { return h.spans(b) })
}

// anyMeets tells whether the block meets one of them.
func anyMeets[H holder](list []H, b api.Block) bool {
	return slices.ContainsFunc(list, func(h H) bool { return h.meets(b) })
}

// insert puts one among the others, by rising Bases.
func insert[H holder](list []H, h H) []H {
	at, _ := slices.BinarySearchFunc(list, h.base(), func(x H, base uint32) int {
		return cmp.Compare(x.base(), base)
	})
	return slices.Insert(list, at, h)
}
